package literal

import (
	"strings"

	"brindlewood/api"
)

// What can be said of a byte of a field.
const (
	inside  = iota // it belongs to what is read
	behind         // it is the first one behind it
	illegal        // it is not permitted there
)

// parts reads the parts of a formatted string, however large they are.
func (r *reader) parts() ([]api.FieldPart, api.Fault) {
	var l []api.FieldPart
	for r.more() {
		read := r.plain
		if r.atField() {
			read = r.field
		}
		part, fault := read()
		if fault.Code != api.OK {
			return nil, fault
		}
		l = append(l, part)
	}
	return l, api.Fault{}
}

// isTooLarge reports whether a part is larger than permitted.
func isTooLarge(part api.FieldPart) bool {
	return !part.Field && len(part.Text) > api.MaxText || len(part.Spec) > api.MaxField
}

// atField reports whether a field begins at the offset.
func (r *reader) atField() bool { return r.at("{") && !r.at("{{") }

// plain reads a text up to the next field.
func (r *reader) plain() (api.FieldPart, api.Fault) {
	var text strings.Builder
	for r.more() && !r.atField() {
		if r.at("}") && !r.at("}}") {
			return api.FieldPart{}, wrongAt(r.offset)
		}
		if r.at("{") || r.at("}") {
			// The second one of the two stands for itself.
			r.offset++
		}
		number, valid := r.character()
		if !valid {
			return api.FieldPart{}, wrongAt(r.offset)
		}
		text.WriteRune(number)
	}
	return api.FieldPart{Text: text.String()}, api.Fault{}
}

// field reads a field. Behind each of its pieces is a byte with which the next one begins, or the brace that closes the field.
func (r *reader) field() (api.FieldPart, api.Fault) {
	begin := r.offset
	r.offset++
	expression, fault := r.piece(begin, expressionJudge())
	if fault.Code != api.OK {
		return api.FieldPart{}, fault
	}
	if strings.Trim(expression, " ") == "" {
		return api.FieldPart{}, wrongAt(begin)
	}
	part := api.FieldPart{Field: true, Text: expression}
	if r.at("!") {
		conversion, fault := r.piece(begin, conversionJudge())
		if fault.Code != api.OK {
			return api.FieldPart{}, fault
		}
		part.Convert = int(conversion[1])
	}
	if r.at(":") {
		specification, fault := r.piece(begin, specificationJudge)
		if fault.Code != api.OK {
			return api.FieldPart{}, fault
		}
		part.Spec = specification[1:]
	}
	r.offset++
	return part, api.Fault{}
}

// piece reads a piece of the field that begins at an offset, up to the byte that a judge, who is asked about one byte after the other, finds behind it.
func (r *reader) piece(begin int, judge func(char byte) int) (string, api.Fault) {
	from := r.offset
	for ; r.more(); r.offset++ {
		char := r.text[r.offset]
		if char == '\\' || char == '\n' || char == r.quote {
			return "", wrongAt(r.offset)
		}
		switch judge(char) {
		case illegal:
			return "", wrongAt(r.offset)
		case behind:
			// A part of the string would share its memory, which a result must not (Z4).
			return strings.Clone(r.text[from:r.offset]), api.Fault{}
		}
	}
	return "", wrongAt(begin)
}

// expressionJudge returns the judge of an expression, who remembers the brackets that are open and the string in which the expression is.
func expressionJudge() func(char byte) int {
	var closings []byte
	var quote byte
	return func(char byte) int {
		switch {
		case char == '#':
			return illegal
		case quote != 0:
			if char == quote {
				quote = 0
			}
		case char == '"' || char == '\'':
			quote = char
		case char == '(':
			closings = append(closings, ')')
		case char == '[':
			closings = append(closings, ']')
		case char == '{':
			closings = append(closings, '}')
		case len(closings) == 0 && strings.IndexByte("!:}", char) >= 0:
			return behind
		case strings.IndexByte(")]}", char) >= 0:
			last := len(closings) - 1
			if last < 0 || closings[last] != char {
				return illegal
			}
			closings = closings[:last]
		}
		return inside
	}
}

// conversionJudge returns the judge of an exclamation mark and the letter behind it, who remembers how many bytes there were.
func conversionJudge() func(char byte) int {
	count := 0
	return func(char byte) int {
		count++
		switch {
		case count == 1, count == 2 && (char == 'r' || char == 's'):
			return inside
		case count == 3 && (char == ':' || char == '}'):
			return behind
		}
		return illegal
	}
}

// specificationJudge is the judge of a colon and the specification behind it.
func specificationJudge(char byte) int {
	switch char {
	case '}':
		return behind
	case '{', '"', '\'':
		return illegal
	}
	return inside
}
