package tree_test

import (
	"fmt"
	"reflect"
	"slices"
	"testing"

	"brindlewood/api"
	"brindlewood/tree"
)

// inAnyPattern reports whether an entry is an expression of a pattern, or in one.
func (n *entry) inAnyPattern() bool {
	for c := n; c != nil; c = c.up {
		if c.pattern != nil {
			return true
		}
	}
	return false
}

// behindParts lists the expressions of a tree outside of patterns, each one behind what is in it.
func behindParts(l []api.Stmt) []*entry {
	nodes := flatten(l)
	var found []*entry
	var visit func(n *entry)
	visit = func(n *entry) {
		for _, part := range nodes {
			if part.up == n && part.expr != nil && !part.inAnyPattern() {
				visit(part)
				found = append(found, part)
			}
		}
	}
	for _, n := range nodes {
		if n.expr == nil && n.pattern == nil {
			visit(n)
		}
	}
	// The parts of a statement come ahead of those of the statements in it, or between them: what counts is where they begin.
	slices.SortStableFunc(found, func(a, b *entry) int { return slices.Index(nodes, a.outermost()) - slices.Index(nodes, b.outermost()) })
	return found
}

// outermost is the expression that contains an expression and is in no other one.
func (n *entry) outermost() *entry {
	for n.up.expr != nil {
		n = n.up
	}
	return n
}

func identity(e api.Expr) api.Expr { return e }

// R8.8: the example of the document, and the order of the calls.
func TestReplaceOrder(t *testing.T) {
	for _, l := range samples() {
		l = withLines(l, func(i int) int { return i + 1 })
		got, f := tree.Replace(l, identity)
		expectTree(t, "the same expressions", got, f, l)
		var passed []api.Expr
		tree.Replace(l, func(e api.Expr) api.Expr {
			passed = append(passed, clone(e))
			return e
		})
		var want []api.Expr
		for _, n := range behindParts(l) {
			want = append(want, *n.expr)
		}
		if !same(passed, want) {
			t.Fatalf("passed %s, want %s", brief(passed), brief(want))
		}
	}
}

// R8.8: the order of the calls, by hand: the arguments, the defaults, then target, iterable and conditions of each loop, and then what contains them.
func TestReplaceOrderByHand(t *testing.T) {
	for what, c := range map[string]struct {
		l    []api.Stmt
		want []int
	}{
		"if":     {lined()["if"], []int{2}},
		"call":   {lined()["call"], []int{4, 3, 5, 7, 6, 2}},
		"slice":  {lined()["slice"], []int{3, 0, 5, 0, 4, 2}},
		"fn":     {lined()["fn"], []int{3, 4, 6, 5, 2}},
		"loops":  {lined()["loops"], []int{3, 4, 5, 6, 7, 9, 8, 10, 11, 2}},
		"class":  {lined()["class"], []int{2, 3, 4, 6, 5}},
		"def":    {lined()["def"], []int{2, 3, 4, 6, 5}},
		"with":   {lined()["with"], []int{2, 3, 4, 5, 6}},
		"try":    {lined()["try"], []int{3, 7, 6}},
		"match":  {lined()["match"], []int{2, 11}},
		"blocks": {block(orElse(with(stmt(api.StmtIf, at(2, name("a"))), expression(at(3, name("b")))), expression(at(4, name("c")))), expression(at(5, name("d")))), []int{2, 3, 4, 5}},
	} {
		var passed []int
		_, f := tree.Replace(c.l, func(e api.Expr) api.Expr {
			passed = append(passed, e.Line)
			return e
		})
		if !slices.Equal(passed, c.want) || f != noFault {
			t.Errorf("%s: passed %v, fault %v, want %v", what, passed, f, c.want)
		}
	}
}

// replaced is a copy of a tree in which the expressions outside of patterns are replaced.
func replaced(l []api.Stmt, by func(api.Expr) api.Expr) []api.Stmt {
	c := clone(l)
	replaceIn(reflect.ValueOf(&c).Elem(), by)
	return c
}

func replaceIn(v reflect.Value, by func(api.Expr) api.Expr) {
	switch v.Kind() {
	case reflect.Slice:
		for i := range v.Len() {
			replaceIn(v.Index(i), by)
		}
	case reflect.Struct:
		if v.Type() == reflect.TypeFor[api.Pattern]() {
			return
		}
		for i := range v.NumField() {
			replaceIn(v.Field(i), by)
		}
		if v.Type() == reflect.TypeFor[api.Expr]() {
			v.Set(reflect.ValueOf(by(v.Interface().(api.Expr))))
		}
	}
}

// R8.8: functions that return something else for one kind of expression, also such that is not valid.
func TestReplaceKinds(t *testing.T) {
	others := list(name("z"), number(7), api.Expr{}, api.Expr{Kind: 99, Line: -5, Name: "1", Ops: []int{3}}, expr(api.ExprTuple, name("x"), none()), api.Expr{Kind: api.ExprNone, Line: 3},
		comprehension(api.ExprDict, name("x"), loop(name("y"), name("z"), name("u"))), fn(plain("1"), name("x")), nested(100))
	for _, l := range samples() {
		for kind := api.ExprConst; kind <= api.ExprAwait; kind++ {
			for _, other := range others {
				by := func(e api.Expr) api.Expr {
					if e.Kind == kind {
						return other
					}
					return e
				}
				got, f := tree.Replace(l, by)
				expectTree(t, fmt.Sprint("kind ", kind), got, f, replaced(l, by))
			}
		}
	}
}

// R8.8: what a function returns for a part is in what it is called for next, and what it returns contains its argument.
func TestReplaceParts(t *testing.T) {
	functions := []func(api.Expr) api.Expr{
		func(e api.Expr) api.Expr { return expr(api.ExprTuple, e) },
		func(e api.Expr) api.Expr { return expr(api.ExprList, e, e) },
		func(e api.Expr) api.Expr { e.Args = nil; return e },
		func(e api.Expr) api.Expr { e.Line = 5; e.Name += "x"; return e },
		func(e api.Expr) api.Expr {
			return name(fmt.Sprint("n", len(e.Args), len(e.Params), len(e.Loops), e.Kind))
		},
		func(e api.Expr) api.Expr {
			if len(e.Args) > 0 {
				return e.Args[0]
			}
			return e
		},
		func(e api.Expr) api.Expr {
			for i := range e.Args {
				e.Args[i].Line += 10
			}
			for i := range e.Params {
				e.Params[i].Name += "p"
			}
			for i := range e.Loops {
				e.Loops[i].Target, e.Loops[i].Iter = e.Loops[i].Iter, e.Loops[i].Target
			}
			return e
		},
	}
	for _, l := range samples() {
		for i, by := range functions {
			before := clone(l)
			got, f := tree.Replace(l, by)
			expectTree(t, fmt.Sprint("function ", i), got, f, replaced(l, by))
			if !same(l, before) {
				t.Fatalf("the tree has changed")
			}
		}
	}
	got, f := tree.Replace(nil, func(e api.Expr) api.Expr { t.Error("called"); return e })
	expectTree(t, "nothing", got, f, nil)
	for p := api.PatWild; p <= api.PatAs; p++ {
		l := matching(pattern(api.PatSequence, samplePattern(p)))
		calls := 0
		got, f := tree.Replace(l, func(e api.Expr) api.Expr { calls++; return name("z") })
		l[0].Exprs[0] = name("z")
		expectTree(t, "patterns", got, f, l)
		if calls != 1 {
			t.Errorf("%d calls", calls)
		}
	}
}

// R8.8 and Z4: a function that keeps what it is given, and returns what it keeps, or what is in the tree.
func TestReplaceMemory(t *testing.T) {
	for _, l := range samples() {
		before := clone(l)
		var kept []api.Expr
		got, f := tree.Replace(l, func(e api.Expr) api.Expr {
			kept = append(kept, e)
			return e
		})
		expectTree(t, "kept", got, f, before)
		expectOwnMemory(t, "kept", got, l, kept)

		shared := expr(api.ExprTuple, name("x"), fn([]api.Param{param(api.ParamPlain, "p", name("y"))}, number(1)), comprehension(api.ExprList, name("x"), loop(name("y"), name("z"), name("u"))), compare([]int{1, 2}, many(3)...))
		got, _ = tree.Replace(l, func(api.Expr) api.Expr { return shared })
		expectOwnMemory(t, "shared", got, l, shared)

		twice := func(e api.Expr) api.Expr { return expr(api.ExprTuple, e, e, shared) }
		if len(flatten(l)) < 12 {
			got, _ = tree.Replace(l, twice)
			expectOwnMemory(t, "twice", got, l, shared)
		}

		for _, n := range flatten(l) {
			if n.expr != nil {
				got, _ = tree.Replace(l, func(api.Expr) api.Expr { return *n.expr })
				expectOwnMemory(t, "from the tree", got, l)
			}
		}
		if !same(l, before) {
			t.Fatal("the tree has changed")
		}
	}
}

// R8.8: what a function does later to what it was given, or has returned, changes nothing.
func TestReplaceLater(t *testing.T) {
	spoil := func(e api.Expr) {
		for _, args := range [][]api.Expr{e.Args, e.Args[:cap(e.Args)]} {
			for i := range args {
				args[i].Name = "spoilt"
				args[i].Args = nil
			}
		}
	}
	for _, l := range samples() {
		before := clone(l)
		var kept []api.Expr
		got, f := tree.Replace(l, func(e api.Expr) api.Expr {
			for _, old := range kept {
				spoil(old)
			}
			returned := clone(e)
			kept = append(kept, e, returned)
			return returned
		})
		for _, old := range kept {
			spoil(old)
		}
		expectTree(t, "spoilt", got, f, before)
	}
}

// R8.8: expressions that are nested far deeper than permitted.
func TestReplaceDeep(t *testing.T) {
	const levels = 300_000
	deep := nested(levels)
	got, f := tree.Replace(block(expression(name("a"))), func(api.Expr) api.Expr { return deep })
	if f != noFault || len(got) != 1 {
		t.Fatalf("fault %v", f)
	}
	count := 1
	for e := got[0].Exprs[0]; len(e.Args) > 0; e = e.Args[0] {
		count++
	}
	if count != levels {
		t.Errorf("%d levels", count)
	}
}
