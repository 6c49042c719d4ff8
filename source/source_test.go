package source_test

import (
	"strings"
	"testing"
	"unsafe"

	"brindlewood/api"
	"brindlewood/source"
)

// R5.2: the number of lines.
func TestLines(t *testing.T) {
	for _, text := range texts(200) {
		all := places(text)
		expectLines(t, text, all[len(all)-1].line, noFault)
	}
	for text, want := range map[string]int{"": 1, "a": 1, "\n": 2, "a\n": 2, "\na": 2, "\n\n\n": 4, "a\n\nb": 3, "é\u2028\u0085b": 1} {
		expectLines(t, text, want, noFault)
	}
	expectLines(t, strings.Repeat("\n", api.MaxSource), api.MaxSource+1, noFault)
	for text, fault := range wrongTexts() {
		expectLines(t, text, 0, fault)
	}
}

// R5.3: all lines of texts, and the numbers that none of them has.
func TestLine(t *testing.T) {
	for _, text := range texts(200) {
		lines, _ := source.Lines(text)
		for line := 1; line <= lines; line++ {
			expectLine(t, text, line, string(lineOf(text, line)), noFault)
		}
		for _, line := range []int{minInt, -1, 0, lines + 1, lines + 2, maxInt} {
			expectLine(t, text, line, "", noLine)
		}
	}
	for i, want := range []string{"", "a€", "", " b", ""} {
		expectLine(t, "\na€\n\n b\n", i+1, want, noFault)
	}
	longest := strings.Repeat("\n", api.MaxSource-1) + "a"
	expectLine(t, longest, api.MaxSource, "a", noFault)
	expectLine(t, longest, api.MaxSource-1, "", noFault)
	expectLine(t, longest, api.MaxSource+1, "", noLine)
}

// R5.3: the faults of a text count before that of a line.
func TestLineFaults(t *testing.T) {
	for text, fault := range wrongTexts() {
		for _, line := range anyNumber {
			expectLine(t, text, line, "", fault)
		}
	}
}

// Z4: a line is memory of its own.
func TestLineMemory(t *testing.T) {
	for _, text := range []string{"abc", "abc\n", "abc\nd"} {
		line, _ := source.Line(text, 1)
		if unsafe.StringData(line) == unsafe.StringData(text) {
			t.Errorf("%q: the line shares its memory with the text", text)
		}
	}
}

// R5.4: all offsets of texts, and those outside.
func TestPosition(t *testing.T) {
	for _, text := range texts(200) {
		begins := map[int]place{}
		for _, at := range places(text) {
			begins[at.offset] = at
		}
		for offset := range len(text) + 1 {
			if at, begin := begins[offset]; begin {
				expectPosition(t, text, offset, at.line, at.column, noFault)
			} else {
				expectPosition(t, text, offset, 0, 0, noBegin)
			}
		}
		for _, offset := range []int{minInt, -2, -1, len(text) + 1, len(text) + 2, maxInt} {
			expectPosition(t, text, offset, 0, 0, noOffset)
		}
	}
}

// R5.4: places that are known, among them line feeds and the ends of texts.
func TestPositionPlaces(t *testing.T) {
	for _, c := range []struct {
		text                 string
		offset, line, column int
	}{
		{"", 0, 1, 1}, {"a\nbc", 0, 1, 1}, {"a\nbc", 1, 1, 2}, {"a\nbc", 2, 2, 1}, {"a\nbc", 3, 2, 2}, {"a\nbc", 4, 2, 3},
		{"\n", 0, 1, 1}, {"\n", 1, 2, 1}, {"a\n", 2, 2, 1}, {"\n\n", 1, 2, 1}, {"\n\n", 2, 3, 1}, {"é😀\nb", 2, 1, 2}, {"é😀\nb", 6, 1, 3}, {"é😀\nb", 7, 2, 1}, {"\n€", 4, 2, 2},
	} {
		expectPosition(t, c.text, c.offset, c.line, c.column, noFault)
	}
	for _, offset := range []int{1, 3, 4, 5} {
		expectPosition(t, "é😀\nb", offset, 0, 0, noBegin)
	}
	expectPosition(t, strings.Repeat("é", api.MaxSource/2), api.MaxSource, 1, api.MaxSource/2+1, noFault)
	expectPosition(t, strings.Repeat("é", api.MaxSource/2), api.MaxSource-1, 0, 0, noBegin)
	expectPosition(t, strings.Repeat("\n", api.MaxSource), api.MaxSource, api.MaxSource+1, 1, noFault)
}

// R5.4: the faults of a text count before those of an offset.
func TestPositionFaults(t *testing.T) {
	for text, fault := range wrongTexts() {
		for _, offset := range append(anyNumber, len(text), len(text)+1) {
			expectPosition(t, text, offset, 0, 0, fault)
		}
	}
}

// R5.5: all lines and columns of texts, and those around them; what Position returns leads back.
func TestOffset(t *testing.T) {
	for _, text := range texts(200) {
		offsets := map[[2]int]int{}
		for _, at := range places(text) {
			offsets[[2]int{at.line, at.column}] = at.offset
			line, column, _ := source.Position(text, at.offset)
			expectOffset(t, text, line, column, at.offset, noFault)
		}
		lines, _ := source.Lines(text)
		for line := 1; line <= lines; line++ {
			length := len(lineOf(text, line))
			for column := 1; column <= length+1; column++ {
				expectOffset(t, text, line, column, offsets[[2]int{line, column}], noFault)
			}
			for _, column := range []int{minInt, -1, 0, length + 2, length + 3, maxInt} {
				expectOffset(t, text, line, column, 0, noColumn)
			}
		}
		for _, line := range []int{minInt, -1, 0, lines + 1, maxInt} {
			for _, column := range anyNumber {
				expectOffset(t, text, line, column, 0, noLine)
			}
		}
	}
}

// R5.5: offsets that are known, among them those behind the last characters of lines.
func TestOffsetPlaces(t *testing.T) {
	for _, c := range []struct {
		text               string
		line, column, want int
	}{
		{"", 1, 1, 0}, {"a\nbc", 1, 1, 0}, {"a\nbc", 1, 2, 1}, {"a\nbc", 2, 1, 2}, {"a\nbc", 2, 2, 3}, {"a\nbc", 2, 3, 4},
		{"\n", 1, 1, 0}, {"\n", 2, 1, 1}, {"a\n", 2, 1, 2}, {"a\n\nb", 2, 1, 2}, {"é😀\nb", 1, 2, 2}, {"é😀\nb", 1, 3, 6}, {"é😀\nb", 2, 1, 7}, {"é😀\nb", 2, 2, 8},
	} {
		expectOffset(t, c.text, c.line, c.column, c.want, noFault)
	}
	expectOffset(t, "", 1, 2, 0, noColumn)
	expectOffset(t, "\n", 1, 2, 0, noColumn)
	expectOffset(t, "\n", 2, 2, 0, noColumn)
	expectOffset(t, "é😀\nb", 1, 4, 0, noColumn)
	expectOffset(t, "é", 1, 3, 0, noColumn)
	expectOffset(t, strings.Repeat("é", api.MaxSource/2), 1, api.MaxSource/2+1, api.MaxSource, noFault)
}

// R5.5: the faults of a text count before those of a line and a column.
func TestOffsetFaults(t *testing.T) {
	for text, fault := range wrongTexts() {
		for _, line := range anyNumber {
			for _, column := range anyNumber {
				expectOffset(t, text, line, column, 0, fault)
			}
		}
	}
}
