package token

import (
	"slices"
	"strings"

	"brindlewood/api"
)

const decimalDigits = "0123456789"

// signs contains every sign behind those that begin with it, so that the first one that fits is the longest.
var signs = []string{
	"**=", "//=", "<<=", ">>=",
	"**", "//", "<<", ">>", "<=", ">=", "==", "!=", "+=", "-=", "*=", "/=", "%=", "&=", "|=", "^=", "->",
	"+", "-", "*", "/", "%", "&", "|", "^", "~", "<", ">", "(", ")", "[", "]", "{", "}", ",", ":", ".", "=", "@",
}

// taker returns the method that takes the token at the offset.
func (s *scanner) taker() func() api.Fault {
	first := rune(s.text[s.offset])
	switch {
	case quoteIndex(s.rest()) >= 0:
		return s.takeString
	case isLetter(first):
		return s.takeName
	case isDigit(first):
		return s.takeNumeral
	}
	return s.takeSign
}

// take adds a token of a number of bytes and goes past it.
func (s *scanner) take(kind, size int) api.Fault {
	s.add(kind, s.rest()[:size])
	s.pass(size)
	return api.Fault{}
}

func (s *scanner) takeName() api.Fault {
	size := nameSize(s.rest())
	if size > api.MaxName {
		return s.fault(api.ErrName, 0)
	}
	if _, found := slices.BinarySearch(s.keywords, s.rest()[:size]); found {
		return s.take(api.TokKeyword, size)
	}
	return s.take(api.TokName, size)
}

func (s *scanner) takeNumeral() api.Fault {
	size, valid := numeralSize(s.rest())
	if !valid {
		return s.fault(api.ErrSyntax, size)
	}
	if size > api.MaxNumeral {
		return s.fault(api.ErrTooLong, 0)
	}
	return s.take(api.TokNumber, size)
}

func (s *scanner) takeString() api.Fault {
	size, code := stringSize(s.rest())
	if code != api.OK {
		return s.fault(code, size)
	}
	return s.take(api.TokString, size)
}

func (s *scanner) takeSign() api.Fault {
	for _, sign := range signs {
		if strings.HasPrefix(s.rest(), sign) {
			if !s.nest(sign) {
				break
			}
			return s.take(api.TokSign, len(sign))
		}
	}
	return s.fault(api.ErrSyntax, 0)
}

// nest opens or closes the bracket that a sign is, and reports whether it may stand there. All other signs may.
func (s *scanner) nest(sign string) bool {
	switch sign {
	case "(":
		s.closings = append(s.closings, ")")
	case "[":
		s.closings = append(s.closings, "]")
	case "{":
		s.closings = append(s.closings, "}")
	case ")", "]", "}":
		last := len(s.closings) - 1
		if last < 0 || s.closings[last] != sign {
			return false
		}
		s.closings = s.closings[:last]
	}
	return true
}

// nameSize returns the number of letters and digits with which a text begins: the bytes of a name, if the first one is a letter.
func nameSize(text string) int {
	size := strings.IndexFunc(text, func(char rune) bool { return !isLetter(char) && !isDigit(char) })
	if size < 0 {
		return len(text)
	}
	return size
}

// numeralSize returns the number of bytes of the numeral with which a text begins, and true; or the index of the byte that is wrong in it or directly behind it, and false.
func numeralSize(text string) (int, bool) {
	size := 0
	// digits goes past digits and returns their number.
	digits := func(permitted string) int {
		behind := strings.TrimLeft(text[size:], permitted)
		count := len(text) - size - len(behind)
		size += count
		return count
	}
	valid := true
	switch {
	case strings.HasPrefix(text, "0x"):
		size = 2
		valid = digits(decimalDigits+"abcdef") > 0
	case strings.HasPrefix(text, "0b"):
		size = 2
		valid = digits("01") > 0
	default:
		if text[0] == '0' {
			size = 1
		} else {
			digits(decimalDigits)
		}
		size += fractionSize(text[size:])
	}
	return size, valid && nameSize(text[size:]) == 0
}

// fractionSize returns the number of bytes of the full stop with digits behind it with which a text begins, or 0 if it begins otherwise.
func fractionSize(text string) int {
	digits, found := strings.CutPrefix(text, ".")
	behind := strings.TrimLeft(digits, decimalDigits)
	if !found || behind == digits {
		return 0
	}
	return len(text) - len(behind)
}

// stringSize returns the number of bytes of the string with which a text begins, and OK; or the index at which it is wrong or the text ends, and the error.
func stringSize(text string) (int, int) {
	begin := quoteIndex(text)
	raw := text[:begin] == "r"
	quote := text[begin : begin+1]
	if strings.HasPrefix(text[begin:], `"""`) {
		quote = `"""`
	}
	for at := begin + len(quote); at < len(text); at++ {
		switch {
		case strings.HasPrefix(text[at:], quote):
			return at + len(quote), api.OK
		case text[at] == '\n' && len(quote) == 1:
			return at, api.ErrSyntax
		case text[at] == '\\' && !raw && !strings.HasPrefix(text[at+1:], "\n"):
			// Of a character with several bytes, the first one is enough: no other one can end a string.
			at++
		}
	}
	return len(text), api.ErrTruncated
}

// quoteIndex returns the index of the quote with which the string begins that a text begins with, or -1 if it begins otherwise.
func quoteIndex(text string) int {
	index := 0
	if strings.IndexByte("rbf", text[0]) >= 0 {
		index = 1
	}
	if index < len(text) && (text[index] == '"' || text[index] == '\'') {
		return index
	}
	return -1
}

func isLetter(char rune) bool {
	return 'a' <= char && char <= 'z' || 'A' <= char && char <= 'Z' || char == '_'
}

func isDigit(char rune) bool {
	return '0' <= char && char <= '9'
}
