package source_test

import (
	"math/rand"
	"strings"
	"testing"

	"brindlewood/api"
	"brindlewood/source"
)

const minInt, maxInt = -1 << 63, 1<<63 - 1

// Characters of one to four bytes, among them the last one before and the first one behind each length, the neighbours of the surrogates, the replacement and the last code point.
const assorted = "a ~\x7f\u0080é\u07ff\u0800€\ud7ff\ue000\ufffd\uffff\U00010000😀\U0010ffff"

var noFault = api.Fault{}

// fault returns a fault.
func fault(code, index int) api.Fault { return api.Fault{Code: code, Index: index} }

var (
	tooLong   = fault(api.ErrTooLong, -1)
	noLine    = fault(api.ErrRange, -2)
	noOffset  = fault(api.ErrRange, -2)
	noBegin   = fault(api.ErrForm, -2)
	noColumn  = fault(api.ErrRange, -3)
	noWidth   = fault(api.ErrRange, -4)
	anyNumber = []int{minInt, minInt + 1, -1, 0, 1, 2, 3, 20, 200, maxInt - 1, maxInt}
)

// syntax is the fault of a byte that no source text has at an offset.
func syntax(offset int) api.Fault { return fault(api.ErrSyntax, offset) }

// place is where a character of a text begins, or where the text ends.
type place struct{ offset, line, column int }

// places are all places of a valid text, found by going through its characters.
func places(text string) []place {
	var list []place
	at := place{0, 1, 1}
	for _, char := range []rune(text) {
		list = append(list, at)
		at.offset += len(string(char))
		at.column++
		if char == '\n' {
			at.line++
			at.column = 1
		}
	}
	return append(list, at)
}

// lineOf returns the characters of a line of a valid text, found by going through all of its characters.
func lineOf(text string, line int) []rune {
	var result []rune
	number := 1
	for _, char := range []rune(text) {
		if char == '\n' {
			number++
		} else if number == line {
			result = append(result, char)
		}
	}
	return result
}

// texts are source texts: with line feeds at all kinds of places, with characters of all lengths, and random ones.
func texts(random int) []string {
	list := []string{
		"", "a", "\n", "\n\n", "\n\n\n", "a\n", "\na", "a\nbc", "a\n\nb", "\n\na\n\n", "abc\n\n\n\ndef\n", " \n \n ", "é\n€\n😀", "aé€😀\n😀€éa\n", "😀", "😀😀\n\né",
		assorted, assorted + "\n" + assorted, "\n" + assorted + "\n\n", "\ufffd\n\ufffd\ufffd", "\u2028\n\u0085\ufeff", "e\u0301\n\u200d",
	}
	chance := rand.New(rand.NewSource(int64(random)))
	chars := append([]rune(assorted), []rune("\n\n\n\n")...)
	for range random {
		var text strings.Builder
		for range chance.Intn(60) {
			text.WriteRune(chars[chance.Intn(len(chars))])
		}
		list = append(list, text.String())
	}
	return list
}

// wrongTexts are texts that Check refuses, with their faults.
func wrongTexts() map[string]api.Fault {
	return map[string]api.Fault{
		"a\tb": syntax(1), "\xff": syntax(0), "a\nbc\x00": syntax(4), "é\n\x80": syntax(3), "\r\n": syntax(0), "a\n\xe2\x82": syntax(2),
		strings.Repeat("a\n", api.MaxSource/2) + "a": tooLong, strings.Repeat("\t", api.MaxSource+1): tooLong,
	}
}

// brief is a text, shortened.
func brief(text string) string {
	if len(text) > 100 {
		return text[:100] + " .."
	}
	return text
}

func expectCheck(t *testing.T, text string, want api.Fault) {
	t.Helper()
	if got := source.Check(text); got != want {
		t.Fatalf("Check(%q): fault %v, want %v", brief(text), got, want)
	}
}

func expectLines(t *testing.T, text string, want int, fault api.Fault) {
	t.Helper()
	if got, f := source.Lines(text); got != want || f != fault {
		t.Fatalf("Lines(%q): %d, fault %v, want %d, fault %v", brief(text), got, f, want, fault)
	}
}

func expectLine(t *testing.T, text string, line int, want string, fault api.Fault) {
	t.Helper()
	if got, f := source.Line(text, line); got != want || f != fault {
		t.Fatalf("Line(%q, %d): %q, fault %v, want %q, fault %v", brief(text), line, brief(got), f, brief(want), fault)
	}
}

func expectPosition(t *testing.T, text string, offset, line, column int, fault api.Fault) {
	t.Helper()
	if l, c, f := source.Position(text, offset); l != line || c != column || f != fault {
		t.Fatalf("Position(%q, %d): %d, %d, fault %v, want %d, %d, fault %v", brief(text), offset, l, c, f, line, column, fault)
	}
}

func expectOffset(t *testing.T, text string, line, column, want int, fault api.Fault) {
	t.Helper()
	if got, f := source.Offset(text, line, column); got != want || f != fault {
		t.Fatalf("Offset(%q, %d, %d): %d, fault %v, want %d, fault %v", brief(text), line, column, got, f, want, fault)
	}
}

func expectExcerpt(t *testing.T, text string, line, column, width int, want string, fault api.Fault) {
	t.Helper()
	if got, f := source.Excerpt(text, line, column, width); got != want || f != fault {
		t.Fatalf("Excerpt(%q, %d, %d, %d): %q, fault %v, want %q, fault %v", brief(text), line, column, width, got, f, want, fault)
	}
}
