package literal

import (
	"strconv"
	"strings"
	"unicode/utf8"
)

// The most digits between the braces of an escape.
const maxDigits = 6

const lowerDigits = "0123456789abcdef"

// unescape returns the number for which the escape stands with which a text begins, behind its backslash, and its size; the size is 0 if the text begins with no escape. An escape with braces is one only if it is permitted.
func unescape(text string, braces bool) (rune, int) {
	// There is a byte behind every backslash of a content, as it would skip the closing quote otherwise.
	switch behind := text[2:]; text[1] {
	case 'n':
		return '\n', 2
	case 't':
		return '\t', 2
	case '\\', '"', '\'':
		return rune(text[1]), 2
	case 'x':
		digits := behind[:min(2, len(behind))]
		if number, valid := hexadecimal(digits); valid && len(digits) == 2 {
			return number, 4
		}
	case 'u':
		if digits, closed := braced(behind); closed && braces && len(digits) <= maxDigits {
			if number, valid := hexadecimal(digits); valid && utf8.ValidRune(number) {
				return number, len(digits) + len(`\u{}`)
			}
		}
	}
	return 0, 0
}

// braced returns what stands between the braces with which a text begins, or false if it begins with none.
func braced(text string) (string, bool) {
	inner, opened := strings.CutPrefix(text, "{")
	inner, _, closed := strings.Cut(inner, "}")
	return inner, opened && closed
}

// hexadecimal returns the number with some digits, or false if there are none, or others.
func hexadecimal(digits string) (rune, bool) {
	number, err := strconv.ParseUint(digits, 16, 31)
	return rune(number), err == nil
}

// escape returns what stands for a character in a string with a quote.
func escape(char, quote rune) string {
	switch char {
	case '\n':
		return `\n`
	case '\t':
		return `\t`
	case '\\', quote:
		return `\` + string(char)
	}
	if char < 32 || 127 <= char && char < 160 {
		return byNumber(char)
	}
	return string(char)
}

// byNumber returns the escape of a character or byte by its number, which is less than 256.
func byNumber(number rune) string {
	return `\x` + string(lowerDigits[number>>4]) + string(lowerDigits[number&15])
}
