package literal_test

import (
	"fmt"
	"math/big"
	"slices"
	"strings"
	"testing"
	"unsafe"

	"brindlewood/api"
	"brindlewood/literal"
)

const minInt, maxInt = -1 << 63, 1<<63 - 1

var (
	noFault   = api.Fault{}
	noLiteral = fault(api.ErrSyntax, -1)
	wrongType = fault(api.ErrWrongType, -1)
	wrongForm = fault(api.ErrForm, -1)
	tooLong   = fault(api.ErrTooLong, -1)
	tooLarge  = fault(api.ErrTooLarge, -1)
	inexact   = fault(api.ErrInexact, -1)
)

func fault(code, index int) api.Fault { return api.Fault{Code: code, Index: index} }
func syntax(offset int) api.Fault     { return fault(api.ErrSyntax, offset) }

func text(s string) api.Value       { return api.Value{Kind: api.KindText, Text: s} }
func byteString(s string) api.Value { return api.Value{Kind: api.KindBytes, Text: s} }

// plain is a text of a formatted string.
func plain(s string) api.FieldPart { return api.FieldPart{Text: s} }

// field is a field with an expression, a conversion and a specification.
func field(s string, convert int, spec string) api.FieldPart {
	return api.FieldPart{Field: true, Text: s, Convert: convert, Spec: spec}
}

// toInt converts a number of any size.
func toInt(x *big.Int) api.Int {
	a := api.Int{Neg: x.Sign() < 0}
	mask := big.NewInt(1<<32 - 1)
	for rest := new(big.Int).Abs(x); rest.Sign() > 0; rest.Rsh(rest, 32) {
		a.Limbs = append(a.Limbs, uint32(new(big.Int).And(rest, mask).Uint64()))
	}
	return a
}

// number is a ratio or an integer of any size.
func number(x *big.Rat) api.Value {
	if x.IsInt() {
		return api.Value{Kind: api.KindInt, Num: toInt(x.Num())}
	}
	return api.Value{Kind: api.KindRatio, Num: toInt(x.Num()), Den: toInt(x.Denom())}
}

// ratio is a ratio as it is given, which may not be in lowest terms.
func ratio(num, den *big.Int) api.Value {
	return api.Value{Kind: api.KindRatio, Num: toInt(num), Den: toInt(den)}
}

// power returns base^exponent.
func power(base int64, exponent int) *big.Int {
	return new(big.Int).Exp(big.NewInt(base), big.NewInt(int64(exponent)), nil)
}

// plus returns x + n.
func plus(x *big.Int, n int64) *big.Int { return new(big.Int).Add(x, big.NewInt(n)) }

func equalInts(a, b api.Int) bool { return a.Neg == b.Neg && slices.Equal(a.Limbs, b.Limbs) }

func equalValues(a, b api.Value) bool {
	return a.Kind == b.Kind && equalInts(a.Num, b.Num) && equalInts(a.Den, b.Den) && a.Text == b.Text && a.Ref == b.Ref
}

// brief is the text of a value, shortened.
func brief(v any) string {
	s := fmt.Sprintf("%+q", fmt.Sprint(v))
	if len(s) > 300 {
		return s[:300] + " .."
	}
	return s
}

// expectValue compares the results of a call with a text.
func expectValue(t *testing.T, call func(string) (api.Value, api.Fault), s string, want api.Value, fault api.Fault) {
	t.Helper()
	if got, f := call(s); !equalValues(got, want) || f != fault {
		t.Fatalf("%s: %s, fault %v, want %s, fault %v", brief(s), brief(got), f, brief(want), fault)
	}
}

func expectNumber(t *testing.T, s string, want api.Value, fault api.Fault) {
	t.Helper()
	expectValue(t, literal.Number, s, want, fault)
	v, f := wantNumber(s)
	expectValue(t, literal.Number, s, v, f)
}

func expectString(t *testing.T, s string, want api.Value, fault api.Fault) {
	t.Helper()
	expectValue(t, literal.String, s, want, fault)
	expectStringOracle(t, s)
}

// expectStringOracle compares the constant of a string with the oracle.
func expectStringOracle(t *testing.T, s string) {
	t.Helper()
	v, f := wantString(s)
	expectValue(t, literal.String, s, v, f)
}

// compareParts compares the parts of a formatted string.
func compareParts(t *testing.T, s string, want []api.FieldPart, fault api.Fault) {
	t.Helper()
	if got, f := literal.Parts(s); !slices.Equal(got, want) || f != fault {
		t.Fatalf("Parts(%s): %s, fault %v, want %s, fault %v", brief(s), brief(got), f, brief(want), fault)
	}
}

// expectParts compares the parts of a formatted string with those that are given and with the oracle.
func expectParts(t *testing.T, s string, want ...api.FieldPart) {
	t.Helper()
	compareParts(t, s, want, noFault)
	expectPartsOracle(t, s)
}

// expectPartsFault compares the fault of a formatted string.
func expectPartsFault(t *testing.T, s string, want api.Fault) {
	t.Helper()
	compareParts(t, s, nil, want)
	expectPartsOracle(t, s)
}

// expectPartsOracle compares the parts of a formatted string with the oracle.
func expectPartsOracle(t *testing.T, s string) {
	t.Helper()
	want, fault := wantParts(s)
	compareParts(t, s, want, fault)
}

// expectJoin compares the text of parts, or the fault, with what is given and with the oracle.
func expectJoin(t *testing.T, l []api.FieldPart, want string, fault api.Fault) {
	t.Helper()
	if got, f := literal.Join(l); got != want || f != fault {
		t.Fatalf("Join(%s): %s, fault %v, want %s, fault %v", brief(l), brief(got), f, brief(want), fault)
	}
	expectJoinOracle(t, l)
}

func expectJoinOracle(t *testing.T, l []api.FieldPart) {
	t.Helper()
	want, fault := wantJoined(l)
	if got, f := literal.Join(l); got != want || f != fault {
		t.Fatalf("Join(%s): %s, fault %v, want %s, fault %v", brief(l), brief(got), f, brief(want), fault)
	}
}

func expectPrint(t *testing.T, v api.Value, want string, fault api.Fault) {
	t.Helper()
	if got, f := literal.Print(v); got != want || f != fault {
		t.Fatalf("Print(%s): %s, fault %v, want %s, fault %v", brief(v), brief(got), f, brief(want), fault)
	}
}

// quoted are the strings with a prefix and a content, with each kind of quotes.
func quoted(prefix, content string) []string {
	return []string{prefix + `"` + content + `"`, prefix + "'" + content + "'", prefix + `"""` + content + `"""`}
}

// contentOf is the offset at which the content of a string begins.
func contentOf(s string) int {
	begin := strings.IndexAny(s, `"'`) + 1
	if strings.HasPrefix(s[begin:], `""`) && len(s) > begin+2 {
		begin += 2
	}
	return begin
}

// forAll calls a function with all texts of up to a number of pieces.
func forAll(pieces []string, length int, visit func(text string)) {
	var extend func(text string, length int)
	extend = func(text string, length int) {
		visit(text)
		if length == 0 {
			return
		}
		for _, piece := range pieces {
			extend(text+piece, length-1)
		}
	}
	extend("", length)
}

// chars are the characters of a text, each as a text.
func chars(text string) []string { return strings.Split(text, "") }

// shares reports whether the memory of a text is part of that of another one.
func shares(part, whole string) bool {
	data, first := uintptr(unsafe.Pointer(unsafe.StringData(part))), uintptr(unsafe.Pointer(unsafe.StringData(whole)))
	return part != "" && data >= first && data < first+uintptr(len(whole))
}
