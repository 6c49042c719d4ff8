package source_test

import (
	"slices"
	"strings"
	"testing"

	"brindlewood/api"
)

// byteRange is a range of bytes, with both ends.
type byteRange [2]byte

// validForms are the forms of the valid characters of two to four bytes, as the Unicode standard lists them (table 3-7).
var validForms = [][]byteRange{
	{{0xc2, 0xdf}, {0x80, 0xbf}},
	{{0xe0, 0xe0}, {0xa0, 0xbf}, {0x80, 0xbf}},
	{{0xe1, 0xec}, {0x80, 0xbf}, {0x80, 0xbf}},
	{{0xed, 0xed}, {0x80, 0x9f}, {0x80, 0xbf}},
	{{0xee, 0xef}, {0x80, 0xbf}, {0x80, 0xbf}},
	{{0xf0, 0xf0}, {0x90, 0xbf}, {0x80, 0xbf}, {0x80, 0xbf}},
	{{0xf1, 0xf3}, {0x80, 0xbf}, {0x80, 0xbf}, {0x80, 0xbf}},
	{{0xf4, 0xf4}, {0x80, 0x8f}, {0x80, 0xbf}, {0x80, 0xbf}},
}

// fits reports whether a text begins with bytes of a form.
func fits(text string, form []byteRange) bool {
	if len(text) < len(form) {
		return false
	}
	for i, r := range form {
		if text[i] < r[0] || text[i] > r[1] {
			return false
		}
	}
	return true
}

// validSize returns the number of bytes of the permitted character with which a text begins, or 0.
func validSize(text string) int {
	if text[0] == '\n' || text[0] >= 32 && text[0] < 128 {
		return 1
	}
	i := slices.IndexFunc(validForms, func(form []byteRange) bool { return fits(text, form) })
	if i < 0 {
		return 0
	}
	return len(validForms[i])
}

// checked returns the fault that Check should have for a text that is not too long.
func checked(text string) api.Fault {
	for offset := 0; offset < len(text); {
		size := validSize(text[offset:])
		if size == 0 {
			return syntax(offset)
		}
		offset += size
	}
	return noFault
}

// R5.1: texts that are source texts.
func TestCheckValid(t *testing.T) {
	for _, text := range texts(200) {
		expectCheck(t, text, noFault)
	}
}

// R5.1: each code point, alone and between others.
func TestCheckCodePoints(t *testing.T) {
	for char := rune(0); char <= 0x10ffff; char++ {
		if char >= 0xd800 && char <= 0xdfff {
			continue // string(char) would be the replacement
		}
		at := noFault
		behind := noFault
		if char < 32 && char != '\n' {
			at = syntax(0)
			behind = syntax(5)
		}
		expectCheck(t, string(char), at)
		expectCheck(t, "a\n€"+string(char)+"b", behind)
	}
}

// R5.1: all texts of one and two bytes, and texts of three to five bytes around the limits of the forms of characters.
func TestCheckBytes(t *testing.T) {
	for first := range 256 {
		expectCheck(t, string([]byte{byte(first)}), checked(string([]byte{byte(first)})))
		for second := range 256 {
			text := string([]byte{byte(first), byte(second)})
			expectCheck(t, text, checked(text))
		}
	}
	edges := []byte("\x00\x09\x0a\x1f\x20\x7e\x7f\x80\x8f\x90\x9f\xa0\xbf\xc0\xc1\xc2\xdf\xe0\xe1\xec\xed\xee\xef\xf0\xf1\xf3\xf4\xf5\xf8\xff")
	var extend func(text string, length int)
	extend = func(text string, length int) {
		expectCheck(t, text, checked(text))
		if length == 0 {
			return
		}
		for _, b := range edges {
			extend(text+string([]byte{b}), length-1)
		}
	}
	extend("", 4)
	extend("a€", 3)
}

// R5.1: bytes that begin no valid character, with the offset of the first one.
func TestCheckWrongBytes(t *testing.T) {
	for _, bad := range []string{
		"\x80", "\xbf", "\xc3", "\xe2", "\xe2\x82", "\xf0", "\xf0\x9f", "\xf0\x9f\x98", "\xc3\xc3", "\xe2\xc3\xa9", "\xf0\x9fa",
		"\xc0\x80", "\xc0\x8a", "\xc1\xbf", "\xe0\x80\x80", "\xe0\x9f\xbf", "\xf0\x80\x80\x80", "\xf0\x8f\xbf\xbf",
		"\xed\xa0\x80", "\xed\xaf\xbf", "\xed\xb0\x80", "\xed\xbf\xbf", "\xed\xa0\xbd\xed\xb8\x80",
		"\xf4\x90\x80\x80", "\xf5\x80\x80\x80", "\xf7\xbf\xbf\xbf", "\xf8\x88\x80\x80\x80", "\xfe", "\xff", "\xff\xfe", "\xef\xbf", "\xef\xbf\xc0",
	} {
		for _, ahead := range []string{"", "a", "\n", "é", "\ufffd", "a\n€😀\n", assorted} {
			for _, behind := range []string{"", "a", "\n", "é", "\t", "\xff", "\ufffd"} {
				expectCheck(t, ahead+bad+behind, syntax(len(ahead)))
			}
		}
	}
}

// R5.1: the first of several wrong bytes counts, whatever is wrong with it.
func TestCheckFirst(t *testing.T) {
	expectCheck(t, "a\t", syntax(1))
	expectCheck(t, "é\t\xff", syntax(2))
	expectCheck(t, "é\xff\t", syntax(2))
	expectCheck(t, "😀\ufffd\r\n\x80", syntax(7))
	expectCheck(t, "\ufffd\ufffd\x80", syntax(6))
	expectCheck(t, "é\xa9", syntax(2))
}

// R5.1: texts of MaxSource bytes and of more, whose length counts before their bytes.
func TestCheckLength(t *testing.T) {
	for _, unit := range []string{"a", "\n", "é", "😀"} {
		longest := strings.Repeat(unit, api.MaxSource/len(unit))
		expectCheck(t, longest, noFault)
		expectCheck(t, longest+"a", tooLong)
		expectCheck(t, longest+unit, tooLong)
		expectCheck(t, longest+"\t", tooLong)
		expectCheck(t, "\xff"+longest, tooLong)
		expectCheck(t, longest+longest, tooLong)
	}
	expectCheck(t, strings.Repeat("a", api.MaxSource-1)+"\t", syntax(api.MaxSource-1))
	expectCheck(t, strings.Repeat("a", api.MaxSource-1)+"\xe2", syntax(api.MaxSource-1))
	expectCheck(t, strings.Repeat("\xff", api.MaxSource), syntax(0))
	expectCheck(t, strings.Repeat("\xff", api.MaxSource+1), tooLong)
}
