package literal_test

import (
	"fmt"
	"math/big"
	"regexp"
	"slices"
	"strconv"
	"strings"
	"unicode/utf8"

	"brindlewood/api"
)

var (
	numeral   = regexp.MustCompile(`^(?:0x[0-9a-f]+|0b[01]+|(?:0|[1-9][0-9]*)(?:\.[0-9]+)?)$`)
	forbidden = regexp.MustCompile(`[\x00-\x09\x0b-\x1f]`)
	// Strings: the prefix, and the content of those with three quotes and with double and single ones.
	wholes = []*regexp.Regexp{
		regexp.MustCompile(`^(r)(?:"""((?:"{0,2}[^"])*)"""|"([^"\n]*)"|'([^'\n]*)')$`),
		regexp.MustCompile(`^([bf]?)(?:"""((?:"{0,2}(?:\\(?s:.)|[^"\\]))*)"""|"((?:\\[^\n]|[^"\\\n])*)"|'((?:\\[^\n]|[^'\\\n])*)')$`),
	}
	// What a content consists of: escapes and characters.
	units = map[string]*regexp.Regexp{
		"":  regexp.MustCompile(`^(?s:\\(?:[nt\\"']|x[0-9a-fA-F]{2}|u\{[0-9a-fA-F]{1,6}\})|.)`),
		"b": regexp.MustCompile(`^(?s:\\(?:[nt\\"']|x[0-9a-fA-F]{2})|.)`),
		"r": regexp.MustCompile(`^(?s:.)`),
	}
	// Expressions: strings that end, and one that does not.
	innerStrings = regexp.MustCompile(`"[^"]*"|'[^']*'`)
	openString   = regexp.MustCompile(`(["'])(?s:.)*$`)
	noBrackets   = regexp.MustCompile(`[^()\[\]{}"']`)
	pairs        = regexp.MustCompile(`\(\)|\[\]|\{\}`)
	// What stands behind an expression: as a whole, and how it can begin.
	tailWhole  = regexp.MustCompile(`^(?:!([rs]))?(?::([^{}"'\\\n]*))?\}$`)
	tailBegins = regexp.MustCompile(`^(?:!(?:[rs](?::[^{}"'\\\n]*)?)?|:[^{}"'\\\n]*)?`)
	controls   = regexp.MustCompile(`[\x00-\x1f\x7f-\x{9f}]`)
)

// wantNumber returns what Number should return.
func wantNumber(s string) (api.Value, api.Fault) {
	if len(s) > api.MaxNumeral {
		return api.Value{}, tooLong
	}
	if !numeral.MatchString(s) {
		return api.Value{}, noLiteral
	}
	if x, valid := new(big.Int).SetString(s, 0); valid {
		return number(new(big.Rat).SetInt(x)), noFault
	}
	x, _ := new(big.Rat).SetString(s)
	return number(x), noFault
}

// split returns the prefix and the content of a string, and the offset of the content, or false if the text is none.
func split(s string) (string, string, int, bool) {
	if len(s) > api.MaxSource || !utf8.ValidString(s) || forbidden.MatchString(s) {
		return "", "", 0, false
	}
	for _, whole := range wholes {
		if m := whole.FindStringSubmatchIndex(s); m != nil {
			for group := 2; group < 5; group++ {
				if from, to := m[2*group], m[2*group+1]; from >= 0 {
					return s[:m[3]], s[from:to], from, true
				}
			}
		}
	}
	return "", "", 0, false
}

// unit returns the bytes for which the escape or character stands with which a text begins, and its size, or 0 if it is wrong.
func unit(text, prefix string) (string, int) {
	kind := prefix
	if prefix == "f" {
		kind = ""
	}
	found := units[kind].FindString(text)
	if prefix == "r" || found[0] != '\\' {
		if prefix == "b" && len(found) > 1 {
			return "", 0
		}
		return found, len(found)
	}
	if len(found) == 1 {
		return "", 0
	}
	if simple, is := map[string]string{`\n`: "\n", `\t`: "\t", `\\`: `\`, `\"`: `"`, `\'`: "'"}[found]; is {
		return simple, len(found)
	}
	n, _ := strconv.ParseInt(strings.Trim(found[2:], "{}"), 16, 64)
	if n >= 0xd800 && n < 0xe000 || n > 0x10ffff {
		return "", 0
	}
	if prefix == "b" {
		return string([]byte{byte(n)}), len(found)
	}
	return string(rune(n)), len(found)
}

// wantString returns what String should return.
func wantString(s string) (api.Value, api.Fault) {
	prefix, content, from, valid := split(s)
	if !valid {
		return api.Value{}, noLiteral
	}
	if prefix == "f" {
		return api.Value{}, wrongType
	}
	var value []byte
	for at := 0; at < len(content); {
		bytes, size := unit(content[at:], prefix)
		if size == 0 {
			return api.Value{}, syntax(from + at)
		}
		value = append(value, bytes...)
		at += size
	}
	if len(value) > api.MaxText {
		return api.Value{}, tooLarge
	}
	if prefix == "b" {
		return byteString(string(value)), noFault
	}
	return text(string(value)), noFault
}

// wantParts returns what Parts should return.
func wantParts(s string) ([]api.FieldPart, api.Fault) {
	prefix, content, from, valid := split(s)
	if !valid {
		return nil, noLiteral
	}
	if prefix != "f" {
		return nil, wrongType
	}
	var parts []api.FieldPart
	var ahead []byte
	for at := 0; at < len(content); {
		rest := content[at:]
		switch {
		case strings.HasPrefix(rest, "{{"), strings.HasPrefix(rest, "}}"):
			ahead = append(ahead, rest[0])
			at += 2
		case rest[0] == '}':
			return nil, syntax(from + at)
		case rest[0] == '{':
			part, size, wrong := wantField(rest, s[from-1:from])
			if size == 0 {
				return nil, syntax(from + at + wrong)
			}
			parts = append(parts, plain(string(ahead)), part)
			ahead = nil
			at += size
		default:
			bytes, size := unit(rest, prefix)
			if size == 0 {
				return nil, syntax(from + at)
			}
			ahead = append(ahead, bytes...)
			at += size
		}
	}
	parts = slices.DeleteFunc(append(parts, plain(string(ahead))), func(p api.FieldPart) bool { return p == api.FieldPart{} })
	for _, p := range parts {
		if !p.Field && len(p.Text) > api.MaxText || len(p.Spec) > api.MaxField {
			return nil, tooLarge
		}
	}
	return parts, noFault
}

// open returns the brackets that are open behind the beginning of an expression, and the quote of the string that does not end there.
func open(begin string) string {
	rest := noBrackets.ReplaceAllString(openString.ReplaceAllString(innerStrings.ReplaceAllString(begin, ""), "$1"), "")
	for pairs.MatchString(rest) {
		rest = pairs.ReplaceAllString(rest, "")
	}
	return rest
}

// wantField returns the field with which a text begins and its size, or 0 and the offset of what is wrong in it.
func wantField(text, quote string) (api.FieldPart, int, int) {
	for at := 1; at < len(text); at++ {
		char := text[at : at+1]
		if strings.Contains("\\\n#"+quote, char) {
			return api.FieldPart{}, 0, at
		}
		if !strings.Contains("!:)]}", char) {
			continue
		}
		switch before := open(text[1:at]); {
		case strings.ContainsAny(before, `"'`):
		case before == "" && strings.Contains("!:}", char):
			if strings.Trim(text[1:at], " ") == "" {
				return api.FieldPart{}, 0, 0
			}
			return wantTail(text, at)
		case strings.Contains(")]}", char) && open(before+char) != before[:max(0, len(before)-1)]:
			return api.FieldPart{}, 0, at
		}
	}
	return api.FieldPart{}, 0, 0
}

// wantTail is wantField for what stands behind an expression.
func wantTail(text string, from int) (api.FieldPart, int, int) {
	to := from + len(tailBegins.FindString(text[from:]))
	if to == len(text) {
		return api.FieldPart{}, 0, 0
	}
	m := tailWhole.FindStringSubmatch(text[from : to+1])
	if m == nil {
		return api.FieldPart{}, 0, to
	}
	part := field(text[1:from], 0, m[2])
	if m[1] != "" {
		part.Convert = int(m[1][0])
	}
	return part, to + 1, 0
}

// hexes replaces characters by their escapes.
func hexes(s string) string {
	return controls.ReplaceAllStringFunc(s, func(char string) string {
		number, _ := utf8.DecodeRuneInString(char)
		return fmt.Sprintf(`\x%02x`, number)
	})
}

// written returns the text of parts, whatever they are.
func written(l []api.FieldPart) string {
	var s strings.Builder
	for _, part := range l {
		if !part.Field {
			valid := string([]rune(part.Text))
			s.WriteString(hexes(strings.NewReplacer("\n", `\n`, "\t", `\t`, `\`, `\\`, "'", `\'`, "{", "{{", "}", "}}").Replace(valid)))
			continue
		}
		s.WriteString("{" + part.Text)
		if part.Convert != 0 {
			s.WriteString("!")
			s.WriteByte(byte(uint(part.Convert) % 256))
		}
		if part.Spec != "" {
			s.WriteString(":" + part.Spec)
		}
		s.WriteString("}")
	}
	return "f'" + s.String() + "'"
}

// wantJoined returns what Join should return.
func wantJoined(l []api.FieldPart) (string, api.Fault) {
	s := written(l)
	if len(s) > api.MaxSource {
		return "", tooLarge
	}
	if parts, f := wantParts(s); f != noFault || !slices.Equal(parts, l) {
		return "", wrongForm
	}
	return s, noFault
}

// wantText returns the literal of a text.
func wantText(s string) string {
	return `"` + hexes(strings.NewReplacer("\n", `\n`, "\t", `\t`, `\`, `\\`, `"`, `\"`).Replace(s)) + `"`
}

// wantBytes returns the literal of a byte string: like that of the text whose characters have the numbers of its bytes, but for those from 160 on.
func wantBytes(s string) string {
	var chars []rune
	for _, b := range []byte(s) {
		chars = append(chars, rune(b))
	}
	return "b" + regexp.MustCompile(`[\x{a0}-\x{ff}]`).ReplaceAllStringFunc(wantText(string(chars)), func(char string) string {
		return fmt.Sprintf(`\x%x`, []rune(char)[0])
	})
}
