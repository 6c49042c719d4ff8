package tree_test

import (
	"slices"
	"testing"

	"brindlewood/api"
	"brindlewood/tree"
)

func expectAlike(t *testing.T, what string, a, b []api.Stmt, want bool) {
	t.Helper()
	for _, pair := range [][2][]api.Stmt{{a, b}, {b, a}} {
		if got, f := tree.Alike(pair[0], pair[1]); got != want || f != noFault {
			t.Errorf("%s: %v, fault %v, want %v\n%s\n%s", what, got, f, want, brief(pair[0]), brief(pair[1]))
		}
	}
}

// R8.6: the example of the document.
func TestAlike(t *testing.T) {
	expectAlike(t, "example", block(at(1, pass())), block(at(2, pass())), true)
	expectAlike(t, "nothing", nil, []api.Stmt{}, true)
	expectAlike(t, "nothing and something", nil, block(pass()), false)
	expectAlike(t, "one and two", block(pass()), block(pass(), pass()), false)
	expectAlike(t, "in another order", block(pass(), stmt(api.StmtRaise)), block(stmt(api.StmtRaise), pass()), false)
}

// R8.6: the samples, compared with each other, and with themselves at other lines.
func TestAlikeSamples(t *testing.T) {
	all := samples()
	for i, a := range all {
		expectAlike(t, "the same", a, clone(a), true)
		expectAlike(t, "other lines", a, withLines(a, func(i int) int { return 100 + i*i%50 }), true)
		for _, b := range all[:i] {
			expectAlike(t, "two samples", a, b, same(a, b))
		}
	}
}

// R8.6: trees that differ by one small change, in one field only, which counts unless it is a line.
func TestAlikeMutants(t *testing.T) {
	counts := map[string]int{}
	forMutants(func(original, mutant []api.Stmt, path []string) {
		if tree.Validate(mutant) != noFault {
			return
		}
		changed := path[len(path)-1]
		want := changed == "Line" || same(original, mutant)
		if got, f := tree.Alike(original, mutant); got != want || f != noFault {
			t.Fatalf("%v: %v, fault %v, want %v\n%s\n%s", path, got, f, want, brief(original), brief(mutant))
		}
		if !want {
			counts[changed]++
		}
	})
	for _, changed := range []string{"Kind", "Name", "Names", "Op", "Ops", "Async", "Exprs", "Args", "Params", "Default", "Body", "Else", "Final", "Handlers", "Items", "Value", "Target", "Cases", "Pattern", "Guard", "Subs", "Loops", "Iter", "Conds", "Limbs", "Text", "Ref"} {
		if counts[changed] == 0 {
			t.Errorf("no tree differs in %s only", changed)
		}
	}
}

// R8.6: constants that are nearly equal.
func TestAlikeConstants(t *testing.T) {
	l := list(literalOf(api.Value{}), literalOf(api.Value{Kind: api.KindBool}), literalOf(api.Value{Kind: api.KindBool, Ref: 1}), number(0), number(1), number(2), text(""), text("a"), text("b"), byteString(""), byteString("a"),
		literalOf(api.Value{Kind: api.KindInt, Num: api.Int{Limbs: []uint32{0, 1}}}), literalOf(api.Value{Kind: api.KindInt, Num: api.Int{Limbs: []uint32{1, 1}}}), ratio(0), ratio(1),
		literalOf(api.Value{Kind: api.KindRatio, Num: api.Int{Limbs: []uint32{1}}, Den: api.Int{Limbs: []uint32{4}}}), literalOf(api.Value{Kind: api.KindRatio, Num: api.Int{Limbs: []uint32{1}}, Den: api.Int{Limbs: []uint32{0, 4}}}))
	for i, a := range l {
		for j, b := range l {
			expectAlike(t, "constants", block(expression(a)), block(expression(b)), i == j)
			expectAlike(t, "constants in patterns", matching(constantPattern(a)), matching(constantPattern(b)), i == j)
		}
	}
	withEmpty := literalOf(api.Value{Kind: api.KindInt, Num: api.Int{Limbs: []uint32{}}, Den: api.Int{Limbs: []uint32{}}})
	expectAlike(t, "empty and nil", block(expression(withEmpty)), block(expression(number(0))), true)
	emptyLists := api.Stmt{Kind: api.StmtPass, Line: 1, Names: []string{}, Exprs: list(), Body: block(), Cases: []api.Case{}, Items: []api.Item{}, Handlers: []api.Handler{}, Params: []api.Param{}}
	expectAlike(t, "empty and nil", block(emptyLists), block(pass()), true)
}

// R8.6: the code of the error of the first tree at -1, then that of the second one at -2.
func TestAlikeErrors(t *testing.T) {
	trees := append([][]api.Stmt{block(pass()), nil}, block(stmt(99)), block(pass(), at(0, pass())), block(stmt(api.StmtDel)), block(expression(name("1"))), block(stmt(api.StmtBreak)), make([]api.Stmt, api.MaxNodes+1))
	for _, a := range trees {
		for _, b := range trees {
			want := noFault
			if fa, fb := wantFault(a), wantFault(b); fa != noFault {
				want = fault(fa.Code, -1)
			} else if fb != noFault {
				want = fault(fb.Code, -2)
			}
			got, f := tree.Alike(a, b)
			if f != want || got != (want == noFault && same(a, b)) {
				t.Errorf("%v, fault %v, want %v", got, f, want)
			}
		}
	}
}

// copied are values of every kind, also such that are not valid.
func copied() []api.Value {
	big := make([]uint32, 3000)
	big[2999] = 5
	return []api.Value{
		{}, {Kind: api.KindBool, Ref: 1}, {Kind: api.KindInt}, {Kind: api.KindInt, Num: api.Int{Limbs: []uint32{7}}}, {Kind: api.KindInt, Num: api.Int{Neg: true, Limbs: []uint32{1, 2, 3}}},
		{Kind: api.KindRatio, Num: api.Int{Neg: true, Limbs: []uint32{1}}, Den: api.Int{Limbs: []uint32{2, 9}}}, {Kind: api.KindText, Text: "text"}, {Kind: api.KindText}, {Kind: api.KindBytes, Text: "\x00\xff"}, {Kind: api.KindRef, Ref: 17},
		{Kind: api.KindBuiltin, Text: "print"}, {Kind: api.KindPass}, {Kind: api.KindUnbound}, {Kind: -5, Ref: minInt, Text: "\xff", Num: api.Int{Neg: true}, Den: api.Int{Neg: true, Limbs: []uint32{0}}},
		{Kind: 99, Num: api.Int{Limbs: []uint32{0, 0}}, Den: api.Int{Limbs: []uint32{}}, Text: "x", Ref: maxInt}, {Kind: api.KindInt, Num: api.Int{Limbs: big}},
	}
}

// R8.7: every kind of value, which is changed afterwards.
func TestCopy(t *testing.T) {
	for _, v := range copied() {
		before := clone(v)
		got := tree.Copy(v)
		if !same(got, before) || !same(v, before) {
			t.Errorf("Copy(%s) is %s", brief(before), brief(got))
		}
		expectOwnMemory(t, "Copy", got, v)
		for _, l := range [][]uint32{v.Num.Limbs, v.Den.Limbs} {
			for i := range l {
				l[i]++
			}
		}
		if !same(got, before) {
			t.Errorf("the copy of %s became %s", brief(before), brief(got))
		}
		again := clone(v)
		for _, l := range [][]uint32{got.Num.Limbs, got.Den.Limbs} {
			for i := range l {
				l[i] += 7
			}
		}
		if !same(v, again) {
			t.Errorf("%s was changed through its copy", brief(again))
		}
	}
}

// R8.7 and Z4: limbs that are one list, and spare capacity.
func TestCopyMemory(t *testing.T) {
	limbs := []uint32{1, 2, 3, 4}
	v := api.Value{Kind: api.KindRatio, Num: api.Int{Limbs: limbs[:2]}, Den: api.Int{Limbs: limbs[:3]}}
	got := tree.Copy(v)
	expectOwnMemory(t, "Copy", got, v, limbs)
	got.Num.Limbs = append(got.Num.Limbs, 99)
	got.Den.Limbs = append(got.Den.Limbs, 98)
	if !slices.Equal(limbs, []uint32{1, 2, 3, 4}) || !slices.Equal(got.Num.Limbs, []uint32{1, 2, 99}) || !slices.Equal(got.Den.Limbs, []uint32{1, 2, 3, 98}) {
		t.Errorf("%v, %v", limbs, got)
	}
}
