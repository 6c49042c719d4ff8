package literal

import (
	"strings"
	"unicode/utf8"

	"brindlewood/api"
)

// reader goes through the content of a string from the left to the right.
type reader struct {
	text   string // the string up to its closing quote, so that offsets are those of the string
	offset int    // how far it has come
	prefix string // r, b, f or nothing
	quote  byte
}

// open returns the reader of a string, or false if the text is none.
func open(s string) (*reader, bool) {
	if !isToken(s, api.TokString) {
		return nil, false
	}
	begin := strings.IndexAny(s, `"'`)
	size := 1
	if strings.HasPrefix(s[begin:], `"""`) {
		size = 3
	}
	return &reader{text: s[:len(s)-size], offset: begin + size, prefix: s[:begin], quote: s[begin]}, true
}

// more reports whether the reader is ahead of the end of the content.
func (r *reader) more() bool { return r.offset < len(r.text) }

// at reports whether a text is at the offset.
func (r *reader) at(text string) bool { return strings.HasPrefix(r.text[r.offset:], text) }

// constant reads the content of a string that is not formatted.
func (r *reader) constant() (api.Value, api.Fault) {
	kind := api.KindText
	var content strings.Builder
	put := func(number rune) { content.WriteRune(number) }
	if r.prefix == "b" {
		kind = api.KindBytes
		put = func(number rune) { content.WriteByte(byte(number)) }
	}
	for r.more() {
		number, valid := r.character()
		if !valid {
			return api.Value{}, wrongAt(r.offset)
		}
		put(number)
	}
	return api.Value{Kind: kind, Text: content.String()}, api.Fault{}
}

// character reads a character or an escape and returns the number of the character or byte for which it stands, or false if it is not permitted.
func (r *reader) character() (rune, bool) {
	char, size := utf8.DecodeRuneInString(r.text[r.offset:])
	switch {
	case char == '\\' && r.prefix != "r":
		char, size = unescape(r.text[r.offset:], r.prefix != "b")
	case char >= utf8.RuneSelf && r.prefix == "b":
		size = 0
	}
	r.offset += size
	return char, size > 0
}
