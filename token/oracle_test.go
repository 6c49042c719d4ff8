package token_test

import (
	"regexp"
	"slices"
	"sort"
	"strings"

	"brindlewood/api"
	"brindlewood/source"
)

// Regular expressions for the tokens, each with its kind. A string with three quotes comes before one with a single quote.
var forms = []struct {
	kind  int
	whole *regexp.Regexp
}{
	{api.TokString, regexp.MustCompile(`^r"""(?s:.*?)"""`)},
	{api.TokString, regexp.MustCompile(`^[bf]?"""(?s:\\.|[^\\])*?"""`)},
	{api.TokString, regexp.MustCompile(`^r(?:"[^"\n]*"|'[^'\n]*')`)},
	{api.TokString, regexp.MustCompile(`^[bf]?(?:"(?:\\[^\n]|[^\\"\n])*"|'(?:\\[^\n]|[^\\'\n])*')`)},
	{api.TokName, regexp.MustCompile(`^[a-zA-Z_][a-zA-Z_0-9]*`)},
	{api.TokNumber, regexp.MustCompile(`^(?:0x[0-9a-f]+|0b[01]+|(?:0|[1-9][0-9]*)(?:\.[0-9]+)?)`)},
	{api.TokSign, regexp.MustCompile(signForm())},
}

var (
	between     = regexp.MustCompile(`^(?: |#[^\n]*)*`)
	triple      = regexp.MustCompile(`^[rbf]?"""`)
	quoted      = regexp.MustCompile(`^[rbf]?["']`)
	digitsMiss  = regexp.MustCompile(`^0(?:x(?:[^0-9a-f]|$)|b(?:[^01]|$))`)
	letterBegin = regexp.MustCompile(`^[a-zA-Z_0-9]`)
)

// signForm is a regular expression for all signs, longer ones first.
func signForm() string {
	list := strings.Fields(allSigns)
	sort.SliceStable(list, func(i, j int) bool { return len(list[i]) > len(list[j]) })
	for i := range list {
		list[i] = regexp.QuoteMeta(list[i])
	}
	return "^(?:" + strings.Join(list, "|") + ")"
}

// lexeme is a token, a line feed (kind TokLine) or the end of a text (kind TokEnd), with the offset at which it begins.
type lexeme struct {
	kind, offset int
	text         string
}

// none stands where no token could be read.
var none = lexeme{kind: -1}

// formOf returns the token with which a text begins, or its fault with an index in this text.
func formOf(text string) (lexeme, api.Fault) {
	if triple.MatchString(text) && !forms[0].whole.MatchString(text) && !forms[1].whole.MatchString(text) {
		return none, truncated(text)
	}
	for _, form := range forms {
		found := form.whole.FindString(text)
		if found == "" {
			continue
		}
		switch l := (lexeme{form.kind, 0, found}); {
		case l.kind == api.TokName && len(found) > api.MaxName:
			return l, fault(api.ErrName, 0)
		case l.kind == api.TokName && slices.Contains(strings.Fields(allKeywords), found):
			return lexeme{api.TokKeyword, 0, found}, noFault
		case l.kind == api.TokNumber && digitsMiss.MatchString(text):
			return l, syntax(2)
		case l.kind == api.TokNumber && letterBegin.MatchString(text[len(found):]):
			return l, syntax(len(found))
		case l.kind == api.TokNumber && len(found) > api.MaxNumeral:
			return l, fault(api.ErrTooLong, 0)
		case l.kind == api.TokName && quoted.MatchString(text):
			return l, unfinished(text)
		default:
			return l, noFault
		}
	}
	if quoted.MatchString(text) {
		return none, unfinished(text)
	}
	return none, syntax(0)
}

// unfinished is the fault of a string with a single quote that has no end in its line.
func unfinished(text string) api.Fault {
	if feed := strings.Index(text, "\n"); feed >= 0 {
		return syntax(feed)
	}
	return truncated(text)
}

// lexemes returns the lexemes of a text up to its end, or up to the one that has a fault.
func lexemes(text string) ([]lexeme, api.Fault) {
	var list []lexeme
	for offset := 0; ; {
		offset += len(between.FindString(text[offset:]))
		if offset == len(text) {
			return append(list, lexeme{api.TokEnd, offset, ""}), noFault
		}
		next, f := lexeme{api.TokLine, 0, "\n"}, noFault
		if text[offset] != '\n' {
			next, f = formOf(text[offset:])
		}
		next.offset = offset
		list = append(list, next)
		if f != noFault {
			f.Index += offset
			return list, f
		}
		offset += len(next.text)
	}
}

// scanned returns what Scan should return.
func scanned(text string) ([]api.Token, api.Fault) {
	if f := source.Check(text); f != noFault {
		return nil, f
	}
	list, wrong := lexemes(text)
	var result []api.Token
	open, first, indents := "", true, []int{0}
	for i, l := range list {
		put := func(t api.Token) {
			t.Line, t.Column, _ = source.Position(text, l.offset)
			result = append(result, t)
		}
		isEnd, isFeed := l.kind == api.TokEnd, l.kind == api.TokLine
		if isEnd && open != "" {
			return nil, truncated(text)
		}
		if isEnd && !first || isFeed && !first && open == "" {
			put(line)
			first = true
		}
		if isFeed {
			continue
		}
		if first && open == "" {
			blanks := l.offset - strings.LastIndex(text[:l.offset], "\n") - 1
			if isEnd {
				blanks = 0
			}
			// All indentations that are open, from the last one on, up to those that stay.
			stay, found := slices.BinarySearch(indents, blanks)
			if !found && stay < len(indents) {
				return nil, wrongIndent(l.offset)
			}
			if !found {
				indents = append(indents, blanks)
				put(in)
			}
			for range indents[stay+1:] {
				put(out)
			}
			indents = indents[:stay+1]
			first = false
		}
		if i == len(list)-1 && wrong != noFault {
			return nil, wrong
		}
		if l.kind == api.TokSign && strings.Contains("([{", l.text) {
			open += l.text
		} else if l.kind == api.TokSign && strings.Contains(")]}", l.text) {
			if open == "" || !slices.Contains([]string{"()", "[]", "{}"}, open[len(open)-1:]+l.text) {
				return nil, syntax(l.offset)
			}
			open = open[:len(open)-1]
		}
		put(api.Token{Kind: l.kind, Text: l.text})
	}
	return result, noFault
}

// joined returns the text of a list, whatever it consists of.
func joined(l []api.Token) string {
	var text strings.Builder
	level, ahead := 0, "\n"
	for _, t := range l {
		if t.Kind == api.TokIndent {
			level++
		} else if t.Kind == api.TokDedent {
			level--
		} else if t.Kind == api.TokLine {
			text.WriteString("\n")
			ahead = "\n"
		} else if t.Kind != api.TokEnd {
			for range 2 * level {
				if ahead == "\n" {
					text.WriteString(" ")
				}
			}
			text.WriteString(strings.TrimPrefix(ahead, "\n") + t.Text)
			ahead = " "
		}
	}
	return text.String()
}

// joinedOr returns what Join should return.
func joinedOr(l []api.Token) (string, api.Fault) {
	text := joined(l)
	if len(text) > api.MaxSource {
		return "", tooLarge
	}
	if tokens, f := scanned(text); f != noFault || !slices.Equal(bare(tokens), bare(l)) {
		return "", noTokens
	}
	return text, noFault
}
