package token_test

import (
	"fmt"
	"slices"
	"strings"
	"testing"

	"brindlewood/api"
	"brindlewood/token"
)

const minInt, maxInt = -1 << 63, 1<<63 - 1

// The keywords and signs, as the document lists them.
const (
	allKeywords = "and as assert async await break case catch class continue def del elif else false finally fn for from global if import in is match nil not or outer pass raise return super true try while with yield"
	allSigns    = "+ - * / // % ** << >> & | ^ ~ < <= > >= == != ( ) [ ] { } , : . = += -= *= /= //= %= **= <<= >>= &= |= ^= @ ->"
)

var (
	noFault  = api.Fault{}
	tooLong  = fault(api.ErrTooLong, -1)
	tooLarge = fault(api.ErrTooLarge, -1)
	noTokens = fault(api.ErrForm, -1)
)

// Tokens without texts and positions.
var (
	line = api.Token{Kind: api.TokLine}
	in   = api.Token{Kind: api.TokIndent}
	out  = api.Token{Kind: api.TokDedent}
	end  = api.Token{Kind: api.TokEnd}
)

func fault(code, index int) api.Fault  { return api.Fault{Code: code, Index: index} }
func syntax(offset int) api.Fault      { return fault(api.ErrSyntax, offset) }
func wrongIndent(offset int) api.Fault { return fault(api.ErrIndent, offset) }
func truncated(text string) api.Fault  { return fault(api.ErrTruncated, len(text)) }

func name(text string) api.Token   { return api.Token{Kind: api.TokName, Text: text} }
func key(text string) api.Token    { return api.Token{Kind: api.TokKeyword, Text: text} }
func number(text string) api.Token { return api.Token{Kind: api.TokNumber, Text: text} }
func str(text string) api.Token    { return api.Token{Kind: api.TokString, Text: text} }
func sign(text string) api.Token   { return api.Token{Kind: api.TokSign, Text: text} }

// at is a token with a position.
func at(t api.Token, line, column int) api.Token {
	t.Line, t.Column = line, column
	return t
}

// bare is a list of tokens without their positions.
func bare(l []api.Token) []api.Token {
	result := slices.Clone(l)
	for i := range result {
		result[i].Line, result[i].Column = 0, 0
	}
	return result
}

// brief is a text, shortened.
func brief(text string) string {
	if len(text) > 200 {
		return text[:200] + " .."
	}
	return text
}

// list is a list of tokens as a text, shortened.
func list(l []api.Token) string { return brief(fmt.Sprint(l)) }

// expectScan compares the tokens of a text, with their positions, and its fault.
func expectScan(t *testing.T, text string, want []api.Token, fault api.Fault) {
	t.Helper()
	if got, f := token.Scan(text); !slices.Equal(got, want) || f != fault {
		t.Fatalf("Scan(%q):\n%s, fault %v, want\n%s, fault %v", brief(text), list(got), f, list(want), fault)
	}
}

// expectTokens compares the kinds and texts of the tokens of a text with those that are given, and everything with the oracle.
func expectTokens(t *testing.T, text string, want ...api.Token) {
	t.Helper()
	got, f := token.Scan(text)
	if f != noFault || !slices.Equal(bare(got), want) {
		t.Fatalf("Scan(%q):\n%s, fault %v, want\n%s", brief(text), list(bare(got)), f, list(want))
	}
	expectOracle(t, text)
}

// expectLine is expectTokens for a text of one line, without what belongs to the end.
func expectLine(t *testing.T, text string, want ...api.Token) {
	t.Helper()
	expectTokens(t, text, append(slices.Clone(want), line, end)...)
}

// expectFault compares the fault of a text.
func expectFault(t *testing.T, text string, want api.Fault) {
	t.Helper()
	expectScan(t, text, nil, want)
	expectOracle(t, text)
}

// expectOracle compares the tokens of a text and its fault with the oracle.
func expectOracle(t *testing.T, text string) {
	t.Helper()
	want, fault := scanned(text)
	expectScan(t, text, want, fault)
}

// expectJoin compares the text of a list, or its fault.
func expectJoin(t *testing.T, l []api.Token, want string, fault api.Fault) {
	t.Helper()
	if got, f := token.Join(l); got != want || f != fault {
		t.Fatalf("Join(%s):\n%q, fault %v, want\n%q, fault %v", list(l), brief(got), f, brief(want), fault)
	}
}

// forAll calls a function with all texts of up to a number of pieces.
func forAll(pieces []string, length int, visit func(text string)) {
	var extend func(text string, length int)
	extend = func(text string, length int) {
		visit(text)
		if length == 0 {
			return
		}
		for _, piece := range pieces {
			extend(text+piece, length-1)
		}
	}
	extend("", length)
}

// chars are the characters of a text, each as a text.
func chars(text string) []string { return strings.Split(text, "") }
