package tree_test

import (
	"reflect"
	"slices"
	"testing"

	"brindlewood/api"
	"brindlewood/tree"
)

// at gives a node a line.
func at[T any](line int, node T) T {
	reflect.ValueOf(&node).Elem().FieldByName("Line").SetInt(int64(line))
	return node
}

// lined are trees whose lines, in order, are 1, 2 and so on, with a number of nodes. The lines of handlers and cases are among them.
func lined() map[string][]api.Stmt {
	n := func(line int) api.Expr { return at(line, name("a")) }
	ps := func(line int) []api.Stmt { return block(at(line, pass())) }
	wild := func(line int) api.Pattern { return at(line, pattern(api.PatWild)) }
	p := func(byDefault api.Expr) api.Param {
		return param(api.ParamPlain, "p"+string(rune('a'+byDefault.Line%26)), byDefault)
	}
	caught := at(1, try(0, at(2, handler("e", list(n(3)), ps(4)...)), at(5, handler("", list(at(6, attr(n(7), "n"))), ps(8)...))))
	caught = finally(orElse(with(caught, ps(9)...), ps(10)...), append(ps(11), ps(12)...)...)
	return map[string][]api.Stmt{
		"nothing":    nil,
		"expression": block(at(1, expression(n(2)))),
		"statements": append(append(ps(1), ps(2)...), ps(3)...),
		"if":         block(at(1, orElse(with(stmt(api.StmtIf, n(2)), ps(3)...), ps(4)...))),
		"for":        block(at(1, orElse(with(stmt(api.StmtFor, n(2), n(3)), append(ps(4), ps(5)...)...), ps(6)...))),
		"try":        block(caught),
		"class":      block(at(1, decorated(class("c", list(n(4), at(5, named("n", n(6)))), ps(7)...), n(2), n(3)))),
		"def":        block(at(1, decorated(def("f", []api.Param{p(n(4)), param(api.ParamStar, "l"), param(api.ParamOnly, "o", at(5, attr(n(6), "n")))}, ps(7)...), n(2), n(3)))),
		"with":       block(at(1, with(using(item(n(2), n(3)), item(n(4)), item(n(5), n(6))), ps(7)...))),
		"match": block(at(1, api.Stmt{Kind: api.StmtMatch, Exprs: list(n(2)), Cases: []api.Case{
			at(3, option(at(4, mapping("", list(at(5, number(1)), at(6, attr(n(7), "n"))), wild(8), at(9, pattern(api.PatSequence, wild(10))))), list(n(11)), append(ps(12), ps(13)...)...)),
			at(14, option(at(15, classPattern(n(16), nil, wild(17), at(18, capture(api.PatAs, "n", wild(19))))), nil, ps(20)...)),
		}})),
		"slice": block(at(1, expression(at(2, expr(api.ExprIndex, n(3), at(4, expr(api.ExprSlice, none(), n(5), none()))))))),
		"fn":    block(at(1, expression(at(2, fn([]api.Param{p(n(4)), p(at(5, attr(n(6), "n")))}, n(3)))))),
		"loops": block(at(1, expression(at(2, comprehension(api.ExprList, n(3), loop(n(4), n(5), n(6), n(7)), loop(at(8, expr(api.ExprTuple, n(9))), n(10), n(11))))))),
		"call":  block(at(1, expression(at(2, expr(api.ExprCall, at(3, attr(n(4), "f")), n(5), at(6, named("x", n(7)))))))),
	}
}

// R8.4: the example of the document, and trees with all that can contain something.
func TestLines(t *testing.T) {
	expectLines(t, "example", block(at(3, expression(at(3, name("x"))))), []int{3, 3})
	for what, l := range lined() {
		expectValid(t, what, l)
		got, f := tree.Lines(l)
		want := span(1, len(got)+1)
		if f != noFault || !slices.Equal(got, want) {
			t.Errorf("%s: lines %v, fault %v", what, got, f)
		}
		count := 0
		for _, n := range flatten(l) {
			if n.expr == nil || n.expr.Kind != api.ExprNone {
				count++
			}
			if n.stmt != nil {
				count += len(n.stmt.Handlers) + len(n.stmt.Cases)
			}
		}
		if len(got) != count {
			t.Errorf("%s: %d lines, want %d", what, len(got), count)
		}
	}
}

func expectLines(t *testing.T, what string, l []api.Stmt, want []int) {
	t.Helper()
	if got, f := tree.Lines(l); !slices.Equal(got, want) || f != noFault {
		t.Errorf("%s: lines %v, fault %v, want %v", what, got, f, want)
	}
}

// lineFields are the lines of a tree, in order.
func lineFields(l []api.Stmt) []*int {
	var found []*int
	handlers, cases := map[*api.Handler]bool{}, map[*api.Case]bool{}
	for _, n := range flatten(l) {
		for c := n; c.up != nil; c = c.up {
			if h := handlerOf(c); h != nil && !handlers[h] {
				handlers[h] = true
				found = append(found, &h.Line)
			}
			if o := caseOf(c); o != nil && !cases[o] {
				cases[o] = true
				found = append(found, &o.Line)
			}
		}
		switch {
		case n.stmt != nil:
			found = append(found, &n.stmt.Line)
		case n.pattern != nil:
			found = append(found, &n.pattern.Line)
		case n.expr.Kind != api.ExprNone:
			found = append(found, &n.expr.Line)
		}
	}
	return found
}

func handlerOf(n *entry) *api.Handler {
	if n.role == "HandlerExprs" || n.role == "HandlerBody" {
		return &n.up.stmt.Handlers[n.outer]
	}
	return nil
}

func caseOf(n *entry) *api.Case {
	if n.role == "Pattern" || n.role == "Guard" || n.role == "CaseBody" {
		return &n.up.stmt.Cases[n.outer]
	}
	return nil
}

// withLines is a copy of a tree whose lines are, in order, those that a function gives for their positions.
func withLines(l []api.Stmt, line func(i int) int) []api.Stmt {
	c := clone(l)
	for i, at := range lineFields(c) {
		*at = line(i)
	}
	return c
}

// R8.4: the samples, with lines that are all different.
func TestLinesOfSamples(t *testing.T) {
	for _, l := range samples() {
		n := len(lineFields(l))
		expectLines(t, "samples", withLines(l, func(i int) int { return i + 1 }), span(1, n+1))
		expectLines(t, "samples", withLines(l, func(i int) int { return api.MaxSource - i }), reversed(api.MaxSource-n+1, api.MaxSource+1))
	}
}

func reversed(from, to int) []int {
	l := span(from, to)
	slices.Reverse(l)
	return l
}

// R8.4, R8.5, R8.8 and R8.9: the errors of Validate, before anything else.
func TestErrorsOfChanges(t *testing.T) {
	never := func(what string) { t.Error(what + " was called") }
	for _, l := range [][]api.Stmt{
		make([]api.Stmt, 1), block(stmt(api.StmtBreak)), block(pass(), at(0, pass())), block(expression(name("if"))), block(expression(expr(api.ExprStar, name("a")))), block(try(0)), block(def("f", plain("a", "a"), pass())),
		block(pass(), at(api.MaxSource+1, pass())), nest(api.MaxNesting, block(pass()), func(l []api.Stmt) []api.Stmt { return block(with(stmt(api.StmtIf, name("a")), l...)) }),
	} {
		want := wantFault(l)
		if want == noFault {
			t.Fatalf("no fault: %s", brief(l))
		}
		if got, f := tree.Lines(l); got != nil || f != want {
			t.Errorf("Lines: %v, fault %v, want %v", got, f, want)
		}
		for _, by := range []int{0, 1, -1, api.MaxSource + 1, minInt, maxInt} {
			if got, f := tree.Shift(l, by); got != nil || f != want {
				t.Errorf("Shift: %v, fault %v, want %v", got, f, want)
			}
		}
		if got, f := tree.Renumber(l, func(int) int { never("by of Renumber"); return 1 }); got != nil || f != want {
			t.Errorf("Renumber: %v, fault %v, want %v", got, f, want)
		}
		if got, f := tree.Replace(l, func(e api.Expr) api.Expr { never("by of Replace"); return e }); got != nil || f != want {
			t.Errorf("Replace: %v, fault %v, want %v", got, f, want)
		}
	}
}

func expectTree(t *testing.T, what string, got []api.Stmt, f api.Fault, want []api.Stmt) {
	t.Helper()
	if !same(got, want) || f != noFault {
		t.Errorf("%s: %s, fault %v, want %s", what, brief(got), f, brief(want))
	}
}

func expectNoTree(t *testing.T, what string, got []api.Stmt, f, want api.Fault) {
	t.Helper()
	if got != nil || f != want {
		t.Errorf("%s: %s, fault %v, want %v", what, brief(got), f, want)
	}
}

// R8.5: the samples, there and back, up to each end and beyond it.
func TestShift(t *testing.T) {
	outside := fault(api.ErrRange, -2)
	for _, l := range samples() {
		n := len(lineFields(l))
		if n == 0 {
			continue
		}
		low := withLines(l, func(i int) int { return i%7 + 1 })
		most := api.MaxSource - min(n, 7)
		for _, by := range []int{0, 1, 2, 100, most - 1, most} {
			want := withLines(l, func(i int) int { return i%7 + 1 + by })
			got, f := tree.Shift(low, by)
			expectTree(t, "there", got, f, want)
			got, f = tree.Shift(want, -by)
			expectTree(t, "back", got, f, low)
		}
		for _, by := range []int{-1, -2, -api.MaxSource, -api.MaxSource - 1, most + 1, api.MaxSource, api.MaxSource + 1, minInt, maxInt} {
			got, f := tree.Shift(low, by)
			expectNoTree(t, "beyond the ends", got, f, outside)
		}
	}
}

// R8.5: one line of all, also of a handler or a case, comes to an end first.
func TestShiftEnds(t *testing.T) {
	for _, l := range lined() {
		for i := range lineFields(l) {
			high := withLines(l, func(j int) int { return map[bool]int{true: 900, false: 800}[i == j] })
			low := withLines(l, func(j int) int { return map[bool]int{true: 5, false: 800}[i == j] })
			got, f := tree.Shift(high, api.MaxSource-900)
			expectTree(t, "up", got, f, withLines(l, func(j int) int { return map[bool]int{true: api.MaxSource, false: api.MaxSource - 100}[i == j] }))
			got, f = tree.Shift(high, api.MaxSource-899)
			expectNoTree(t, "too far up", got, f, fault(api.ErrRange, -2))
			got, f = tree.Shift(low, -4)
			expectTree(t, "down", got, f, withLines(l, func(j int) int { return map[bool]int{true: 1, false: 796}[i == j] }))
			got, f = tree.Shift(low, -5)
			expectNoTree(t, "too far down", got, f, fault(api.ErrRange, -2))
		}
	}
}

// R8.5: the example of the document: a tree without statements.
func TestShiftNothing(t *testing.T) {
	for _, by := range []int{0, 1, -1, api.MaxSource, -api.MaxSource} {
		for _, l := range [][]api.Stmt{nil, {}} {
			got, f := tree.Shift(l, by)
			expectTree(t, "nothing", got, f, nil)
		}
	}
	for _, by := range []int{api.MaxSource + 1, -api.MaxSource - 1, minInt, maxInt} {
		got, f := tree.Shift(nil, by)
		expectNoTree(t, "nothing, too far", got, f, fault(api.ErrRange, -2))
	}
}

// R8.9: the lines are passed in order, and replaced.
func TestRenumber(t *testing.T) {
	for _, l := range samples() {
		l = withLines(l, func(i int) int { return 3*i + 2 })
		lines, _ := tree.Lines(l)
		got, f := tree.Renumber(l, func(line int) int { return line })
		expectTree(t, "the same lines", got, f, l)
		var passed []int
		got, f = tree.Renumber(l, func(line int) int {
			passed = append(passed, line)
			return api.MaxSource - len(passed)*len(passed)%1000
		})
		expectTree(t, "other lines", got, f, withLines(l, func(i int) int { return api.MaxSource - (i+1)*(i+1)%1000 }))
		if !slices.Equal(passed, lines) {
			t.Errorf("passed %v, want %v", passed, lines)
		}
		got, f = tree.Renumber(l, func(int) int { return 1 })
		expectTree(t, "one line", got, f, withLines(l, func(int) int { return 1 }))
	}
	got, f := tree.Renumber(nil, func(int) int { return 0 })
	expectTree(t, "nothing", got, f, nil)
}

// R8.9: lines that are not permitted: the code is that of the first node with an error, and each line is asked for, once.
func TestRenumberErrors(t *testing.T) {
	for _, l := range samples() {
		n := len(lineFields(l))
		for i := range n {
			for _, wrong := range []int{minInt, -1, 0, api.MaxSource + 1, maxInt} {
				calls := -1
				got, f := tree.Renumber(l, func(line int) int {
					calls++
					if calls == i {
						return wrong
					}
					return line
				})
				expectNoTree(t, "one wrong line", got, f, fault(wantFault(withLines(l, func(j int) int { return map[bool]int{true: wrong, false: 1}[i == j] })).Code, -2))
				if calls != n-1 {
					t.Errorf("%d calls, want %d", calls+1, n)
				}
			}
		}
	}
	a := name("a")
	got, f := tree.Renumber(block(try(0, handler("", list(a), pass()))), callsOf(1, 0, 1, 1, 1))
	expectNoTree(t, "a handler", got, f, fault(api.ErrForm, -2))
	got, f = tree.Renumber(block(match(option(pattern(api.PatWild), nil, pass()))), callsOf(1, 1, 0, 1, 1))
	expectNoTree(t, "a case", got, f, fault(api.ErrForm, -2))
	got, f = tree.Renumber(block(try(0, handler("", list(a), pass()))), callsOf(0, 0, 1, 1, 1))
	expectNoTree(t, "a statement and its handler", got, f, fault(api.ErrRange, -2))
	got, f = tree.Renumber(block(try(0, handler("", list(a), pass()))), callsOf(1, 0, 0, 1, 1))
	expectNoTree(t, "a handler and what is in it", got, f, fault(api.ErrForm, -2))
}

// callsOf is a function that returns some numbers, one after another.
func callsOf(l ...int) func(int) int {
	return func(int) int {
		first := l[0]
		l = l[1:]
		return first
	}
}
