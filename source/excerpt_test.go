package source_test

import (
	"strings"
	"testing"

	"brindlewood/source"
)

// numerals are as many characters as a number says, of one byte each, which go through all digits again and again.
func numerals(count int) string { return strings.Repeat("0123456789", count/10+1)[:count] }

// assortment is as many characters of one to four bytes as a number says.
func assortment(count int) string {
	chars := []rune(assorted)
	var text strings.Builder
	for i := range count {
		text.WriteRune(chars[i%len(chars)])
	}
	return text.String()
}

// excerptOf returns the excerpt from a line with some characters.
func excerptOf(chars []rune, column, width int) string {
	index := column - 1
	if len(chars) > width {
		half := (width - width%2) / 2
		begin := index - half
		if begin < 0 {
			begin = 0
		}
		if begin+width > len(chars) {
			begin = len(chars) - width
		}
		chars = chars[begin : begin+width]
		index -= begin
	}
	return string(chars) + "\n" + strings.Repeat(" ", index) + "^"
}

// R5.6: lines that are shorter than a width, have exactly its characters, or more, at all columns.
func TestExcerpt(t *testing.T) {
	for _, width := range []int{20, 21, 22, 99, 100, 101, 199, 200} {
		for _, length := range []int{0, 1, width / 2, width - 1, width, width + 1, width + 2, width + width/2, 2*width - 1, 2 * width, 2*width + 1, 3 * width} {
			for _, line := range []string{numerals(length), assortment(length)} {
				text := "é\n" + line + "\n" + numerals(300)
				for column := 1; column <= length+1; column++ {
					want := excerptOf([]rune(line), column, width)
					expectExcerpt(t, line, 1, column, width, want, noFault)
					expectExcerpt(t, text, 2, column, width, want, noFault)
				}
			}
		}
	}
}

// R5.6: all places of texts whose lines are shown as a whole.
func TestExcerptPlaces(t *testing.T) {
	for _, text := range texts(40) {
		for _, at := range places(text) {
			for _, width := range []int{20, 33, 200} {
				want := excerptOf(lineOf(text, at.line), at.column, width)
				expectExcerpt(t, text, at.line, at.column, width, want, noFault)
			}
		}
	}
}

// R5.6: excerpts that are known, with even and odd widths, at both ends of a line and between them.
func TestExcerptKnown(t *testing.T) {
	row := "abcdefghijklmnopqrstuvwxyz"
	for _, c := range []struct {
		text                string
		line, column, width int
		want                string
	}{
		{"a\nbc", 2, 2, 20, "bc\n ^"}, {"", 1, 1, 20, "\n^"}, {"\n", 2, 1, 200, "\n^"}, {"a\n\nb", 2, 1, 20, "\n^"}, {"abc", 1, 4, 20, "abc\n   ^"}, {"é€😀", 1, 3, 20, "é€😀\n  ^"},
		{row, 1, 1, 20, row[:20] + "\n^"},
		{row, 1, 11, 20, row[:20] + "\n          ^"},
		{row, 1, 12, 20, row[1:21] + "\n          ^"},
		{row, 1, 16, 20, row[5:25] + "\n          ^"},
		{row, 1, 17, 20, row[6:] + "\n          ^"},
		{row, 1, 18, 20, row[6:] + "\n           ^"},
		{row, 1, 27, 20, row[6:] + "\n                    ^"},
		{row, 1, 11, 21, row[:21] + "\n          ^"},
		{row, 1, 12, 21, row[1:22] + "\n          ^"},
		{row, 1, 16, 21, row[5:] + "\n          ^"},
		{row, 1, 17, 21, row[5:] + "\n           ^"},
		{row, 1, 12, 25, row[:25] + "\n           ^"},
		{row, 1, 14, 25, row[1:] + "\n            ^"},
		{row, 1, 12, 26, row + "\n           ^"},
		{row, 1, 27, 26, row + "\n                          ^"},
		{"\n" + strings.Repeat("é", 10) + strings.Repeat("😀", 30), 2, 15, 20, strings.Repeat("é", 6) + strings.Repeat("😀", 14) + "\n          ^"},
	} {
		expectExcerpt(t, c.text, c.line, c.column, c.width, c.want, noFault)
	}
}

// R5.6: widths outside the range.
func TestExcerptWidths(t *testing.T) {
	for _, text := range []string{"", "abc", "é\n😀", numerals(300)} {
		for _, width := range []int{minInt, minInt + 1, -20, -1, 0, 1, 19, 201, 202, 1 << 32, maxInt - 1, maxInt} {
			expectExcerpt(t, text, 1, 1, width, "", noWidth)
		}
		for _, width := range []int{20, 200} {
			expectExcerpt(t, text, 1, 1, width, excerptOf(lineOf(text, 1), 1, width), noFault)
		}
	}
}

// R5.6: the faults of a text, a line and a column count in this order, before that of a width.
func TestExcerptFaults(t *testing.T) {
	widths := []int{minInt, 0, 19, 20, 200, 201, maxInt}
	for _, width := range widths {
		for _, column := range anyNumber {
			for text, fault := range wrongTexts() {
				for _, line := range anyNumber {
					expectExcerpt(t, text, line, column, width, "", fault)
				}
			}
			for _, line := range []int{minInt, -1, 0, 3, maxInt} {
				expectExcerpt(t, "a\nbc", line, column, width, "", noLine)
			}
		}
		for _, column := range []int{minInt, -1, 0, 4, maxInt} {
			expectExcerpt(t, "a\nbc", 2, column, width, "", noColumn)
		}
		expectExcerpt(t, "a\nbc", 1, 3, width, "", noColumn)
	}
}

// R5.6: the mark is below the character of its column.
func TestExcerptMark(t *testing.T) {
	text := numerals(77) + "\n" + assortment(133)
	for _, at := range places(text) {
		for width := 20; width <= 200; width += 9 {
			excerpt, _ := source.Excerpt(text, at.line, at.column, width)
			part, mark, _ := strings.Cut(excerpt, "\n")
			shown, index := []rune(part), strings.Index(mark, "^")
			chars := lineOf(text, at.line)
			if len(shown) != min(width, len(chars)) || index > len(shown) {
				t.Fatalf("line %d, column %d, width %d: %q", at.line, at.column, width, excerpt)
			}
			if index < len(shown) && shown[index] != chars[at.column-1] || index == len(shown) && at.column != len(chars)+1 {
				t.Fatalf("line %d, column %d, width %d: the mark is below another character: %q", at.line, at.column, width, excerpt)
			}
		}
	}
}
