package tree_test

import (
	"strings"
	"testing"

	"brindlewood/api"
	"brindlewood/tree"
)

func expectName(t *testing.T, s string, want bool) {
	t.Helper()
	if got := tree.Name(s); got != want || got != wantName(s) {
		t.Errorf("Name(%q) is %v", s, got)
	}
}

func expectDotted(t *testing.T, s string, want bool) {
	t.Helper()
	if got := tree.Dotted(s); got != want || got != wantDotted(s) {
		t.Errorf("Dotted(%q) is %v", s, got)
	}
}

// R8.1: the examples of the document, and texts that are and are not names.
func TestName(t *testing.T) {
	expectName(t, "a_1", true)
	expectName(t, "1a", false)
	expectName(t, "if", false)
	for _, s := range []string{"a", "z", "A", "Z", "_", "__", "_1", "a0", "a9", "Z_9", "If", "IF", "if_", "_if", "iff", "i", "f", "fn1", "Nil", "self", "print", "module", "loops", "def_"} {
		expectName(t, s, true)
	}
	for _, s := range []string{"", " ", "a ", " a", "a b", "a\n", "\na", "0", "9", "0a", "a.b", ".", "a-b", "-a", "a'", "é", "aé", "ａ", "٣", "a٣", "ª", "a\x00", "\xff", "a\xff", "a\u200d", "@", "[", "`", "{", "/", ":", "a@", "a[", "a`", "a{", "a/", "a:", "#a", "a#"} {
		expectName(t, s, false)
	}
}

// R8.1: every keyword, and texts that begin or end like one.
func TestNameKeywords(t *testing.T) {
	if len(keywords) != 38 {
		t.Fatalf("%d keywords", len(keywords))
	}
	for _, s := range keywords {
		expectName(t, s, false)
		expectName(t, s+"_", true)
		expectName(t, "_"+s, true)
		expectName(t, strings.ToUpper(s), true)
		expectDotted(t, s, false)
		expectDotted(t, "a."+s, false)
		expectDotted(t, s+".a", false)
		expectDotted(t, s+"0.a", true)
	}
}

// R8.1: names of the greatest length and of one more.
func TestNameLength(t *testing.T) {
	for _, unit := range []string{"a", "_", "Z", "a9", "_0"} {
		for length := 1; length <= api.MaxName+3; length++ {
			expectName(t, strings.Repeat(unit, length)[:length], length <= api.MaxName)
		}
	}
	expectName(t, strings.Repeat("a", 1_000_000), false)
}

// R8.1: every byte and every character below 600 alone, behind and ahead of a letter.
func TestNameCharacters(t *testing.T) {
	for char := range rune(600) {
		for _, s := range []string{string(char), "a" + string(char), string(char) + "a", "a" + string(char) + "a"} {
			expectName(t, s, wantName(s))
			expectDotted(t, s, wantDotted(s))
		}
		for _, s := range []string{string([]byte{byte(char)}), "a" + string([]byte{byte(char)})} {
			expectName(t, s, wantName(s))
			expectDotted(t, s, wantDotted(s))
		}
	}
}

// R8.1: dotted names, and full stops at the ends and next to each other.
func TestDotted(t *testing.T) {
	for _, s := range []string{"a", "_", "a.b", "a.b.c", "_._", "a1.b2", "A.B", "if_.in_", "a.a.a.a.a.a.a.a.a.a"} {
		expectDotted(t, s, true)
	}
	for _, s := range []string{"", ".", "..", "a.", ".a", "a..b", "a.b.", ".a.b", "a...b", "a. b", "a .b", "a.1", "1.a", "a.b c", "a.if", "if.a", "a.if.b", "a.é", "a,b", "a:b", "a.b\n", "a.\x00", "a.\xff"} {
		expectDotted(t, s, false)
	}
	if !tree.Dotted("a.b") || tree.Dotted("a.if") {
		t.Error("the example does not hold")
	}
}

// R8.1: dotted names of the greatest length and of one more, and those with a name that is too long.
func TestDottedLength(t *testing.T) {
	for _, unit := range []string{"a.", "ab.", "abcdefghi.", strings.Repeat("a", api.MaxName) + "."} {
		for length := 1; length <= api.MaxDotted+5; length++ {
			s := strings.Repeat(unit, length)[:length]
			expectDotted(t, s, length <= api.MaxDotted && s[length-1] != '.')
		}
	}
	longest := strings.Repeat("a", api.MaxName)
	expectDotted(t, longest, true)
	expectDotted(t, longest+"a", false)
	expectDotted(t, "b."+longest, true)
	expectDotted(t, "b."+longest+"a", false)
	expectDotted(t, longest+".b", true)
	expectDotted(t, longest+"a.b", false)
	expectDotted(t, strings.Repeat("a.", 1_000_000)+"a", false)
}

// R8.1: all short texts over the characters that count.
func TestNamesAll(t *testing.T) {
	var extend func(s string, length int)
	extend = func(s string, length int) {
		expectName(t, s, wantName(s))
		expectDotted(t, s, wantDotted(s))
		if length > 0 {
			for _, piece := range []string{"a", "_", "0", ".", "if", "Z", " ", "é", "in"} {
				extend(s+piece, length-1)
			}
		}
	}
	extend("", 4)
}
