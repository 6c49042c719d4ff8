package tree_test

import (
	"fmt"
	"testing"

	"brindlewood/api"
	"brindlewood/tree"
)

// nest applies a function a number of times.
func nest[T any](n int, v T, around func(T) T) T {
	for range n {
		v = around(v)
	}
	return v
}

// nested is an expression with a level of its own for each of so many, each one being in the next one.
func nested(levels int) api.Expr {
	return nest(levels-1, name("a"), func(e api.Expr) api.Expr { return operation(api.ExprUnary, api.OpNot, e) })
}

// expectDepth checks that the first node that is too deep is the one with a number, or that there is none for -1.
func expectDepth(t *testing.T, what string, l []api.Stmt, at int) {
	t.Helper()
	if at < 0 {
		expectValid(t, what, l)
	} else {
		expectFault(t, what, l, fault(api.ErrDepth, at))
	}
}

// R8.2: levels of statements, in each kind of block.
func TestNesting(t *testing.T) {
	for _, letter := range stmtLetters {
		l := block(nest(api.MaxNesting-1, pass(), func(s api.Stmt) api.Stmt { return around(letter, s) }))
		expectDepth(t, "as deep as permitted in "+string(letter), l, -1)
		deeper := block(around(letter, l[0]))
		at := -1
		for i, n := range flatten(deeper) {
			if n.stmt != nil && n.level > api.MaxNesting && at < 0 {
				at = i
			}
		}
		expectDepth(t, "deeper in "+string(letter), deeper, at)
	}
	ifs := func(n int) api.Stmt {
		return nest(n-1, pass(), func(s api.Stmt) api.Stmt { return with(stmt(api.StmtIf, name("a")), s) })
	}
	expectDepth(t, "ifs", block(ifs(api.MaxNesting)), -1)
	expectDepth(t, "ifs", block(ifs(api.MaxNesting+1)), 2*api.MaxNesting)
	expectDepth(t, "ifs", block(ifs(api.MaxNesting+5)), 2*api.MaxNesting)
	expectDepth(t, "one block behind another one", block(ifs(api.MaxNesting), ifs(api.MaxNesting), ifs(api.MaxNesting+1)), 2*(2*api.MaxNesting-1)+2*api.MaxNesting)
	expectDepth(t, "an expression in the last block", block(nest(api.MaxNesting-1, expression(nested(api.MaxDepth)), func(s api.Stmt) api.Stmt { return around('I', s) })), -1)
	expectDepth(t, "a pattern in the last block", block(nest(api.MaxNesting-2, matching(nestedPattern(api.MaxDepth))[0], func(s api.Stmt) api.Stmt { return around('I', s) })), -1)
}

// R8.2: levels of expressions, through everything that can contain one.
func TestDepth(t *testing.T) {
	for n := 1; n < 2*api.MaxDepth; n++ {
		want := -1
		if n > api.MaxDepth {
			want = api.MaxDepth + 1
		}
		expectDepth(t, fmt.Sprint(n, " levels"), block(expression(nested(n))), want)
	}
	for what, c := range map[string]struct {
		around func(e api.Expr) api.Expr
		ahead  int // how many nodes of an expression come ahead of the one in it
	}{
		"argument":      {func(e api.Expr) api.Expr { return expr(api.ExprCall, name("a"), e) }, 2},
		"callee":        {func(e api.Expr) api.Expr { return expr(api.ExprCall, e, name("a")) }, 1},
		"element":       {func(e api.Expr) api.Expr { return expr(api.ExprSet, e) }, 1},
		"attribute":     {func(e api.Expr) api.Expr { return attr(e, "n") }, 1},
		"fn":            {func(e api.Expr) api.Expr { return fn(nil, e) }, 1},
		"default":       {func(e api.Expr) api.Expr { return fn([]api.Param{param(api.ParamPlain, "p", e)}, name("a")) }, 2},
		"comprehension": {func(e api.Expr) api.Expr { return comprehension(api.ExprList, e, loop(name("a"), name("a"))) }, 1},
		"iterable":      {func(e api.Expr) api.Expr { return comprehension(api.ExprList, name("a"), loop(name("a"), e)) }, 3},
		"second iterable": {func(e api.Expr) api.Expr {
			return comprehension(api.ExprList, name("a"), loop(name("a"), name("a")), loop(name("a"), e))
		}, 5},
		"condition": {func(e api.Expr) api.Expr {
			return comprehension(api.ExprList, name("a"), loop(name("a"), name("a"), e))
		}, 4},
	} {
		expectDepth(t, what, block(expression(nest(api.MaxDepth-1, name("a"), c.around))), -1)
		// The first node that is too deep is the first one in the last expression that is not.
		expectDepth(t, what, block(expression(nest(api.MaxDepth, name("a"), c.around))), 1+c.ahead*(api.MaxDepth-1)+1)
		// A level of another kind counts just as much.
		expectDepth(t, what, block(expression(nest(14, nested(api.MaxDepth-14), c.around))), -1)
		expectDepth(t, what, block(expression(nest(14, nested(api.MaxDepth-13), c.around))), 1+14*c.ahead+api.MaxDepth-14)
	}
	target := nest(api.MaxDepth-1, name("a"), func(e api.Expr) api.Expr { return expr(api.ExprTuple, e) })
	expectDepth(t, "target", block(stmt(api.StmtAssign, target, name("a"))), -1)
	expectDepth(t, "target", block(stmt(api.StmtAssign, expr(api.ExprList, target), name("a"))), 1+api.MaxDepth)
	expectDepth(t, "target of a loop", block(expression(comprehension(api.ExprList, name("a"), loop(target, name("a"))))), 2+api.MaxDepth)
}

// R8.2: expressions that are in no other one have the level 1, wherever a statement has them.
func TestDepthInStmts(t *testing.T) {
	a, wild := name("a"), pattern(api.PatWild)
	for what, c := range map[string]struct {
		put func(e api.Expr) api.Stmt
		at  int
	}{
		"value":     {func(e api.Expr) api.Stmt { return stmt(api.StmtAssign, a, e) }, 2},
		"decorator": {func(e api.Expr) api.Stmt { return decorated(def("f", nil, pass()), e) }, 1},
		"argument":  {func(e api.Expr) api.Stmt { return class("c", list(e), pass()) }, 1},
		"default":   {func(e api.Expr) api.Stmt { return def("f", []api.Param{param(api.ParamPlain, "p", e)}, pass()) }, 1},
		"item":      {func(e api.Expr) api.Stmt { return using(item(e)) }, 1},
		"target":    {func(e api.Expr) api.Stmt { return using(item(a, attr(e, "n"))) }, 2},
		"handler":   {func(e api.Expr) api.Stmt { return try(0, handler("", list(e), pass())) }, 1},
		"guard":     {func(e api.Expr) api.Stmt { return match(option(wild, list(e), pass())) }, 3},
	} {
		levels := api.MaxDepth
		if what == "target" {
			levels--
		}
		for _, inner := range []string{"", "I", "IIII"} {
			expectDepth(t, what, block(wrap(inner, c.put(nested(levels)))), -1)
			expectDepth(t, what, block(wrap(inner, c.put(nested(levels+1)))), 2*len(inner)+c.at+api.MaxDepth)
		}
	}
}

func nestedPattern(levels int) api.Pattern {
	return nest(levels-1, pattern(api.PatWild), func(p api.Pattern) api.Pattern { return capture(api.PatAs, "n", p) })
}

// R8.2: levels of patterns, and of expressions in them.
func TestPatternDepth(t *testing.T) {
	wild := pattern(api.PatWild)
	for what, c := range map[string]struct {
		around func(p api.Pattern) api.Pattern
		ahead  int
	}{
		"as":       {func(p api.Pattern) api.Pattern { return capture(api.PatAs, "n", p) }, 1},
		"sequence": {func(p api.Pattern) api.Pattern { return pattern(api.PatSequence, p, wild) }, 1},
		"or":       {func(p api.Pattern) api.Pattern { return pattern(api.PatOr, p, wild) }, 1},
		"mapping":  {func(p api.Pattern) api.Pattern { return mapping("", list(number(1)), p) }, 2},
		"class":    {func(p api.Pattern) api.Pattern { return classPattern(name("c"), nil, p) }, 2},
	} {
		expectDepth(t, what, matching(nest(api.MaxDepth-1, wild, c.around)), -1)
		expectDepth(t, what, matching(nest(api.MaxDepth, wild, c.around)), 2+c.ahead*api.MaxDepth)
	}
	dotted := func(levels int) api.Expr {
		return nest(levels-1, name("a"), func(e api.Expr) api.Expr { return attr(e, "n") })
	}
	at := func(levels int, p api.Pattern) []api.Stmt {
		return matching(nest(levels-1, p, func(p api.Pattern) api.Pattern { return capture(api.PatAs, "n", p) }))
	}
	expectDepth(t, "constant in the last pattern", at(api.MaxDepth, constantPattern(dotted(api.MaxDepth))), -1)
	expectDepth(t, "constant that is too deep", at(1, constantPattern(dotted(api.MaxDepth+1))), 3+api.MaxDepth)
	expectDepth(t, "class that is too deep", at(2, classPattern(dotted(api.MaxDepth+1), nil)), 4+api.MaxDepth)
}

// R8.2: trees of MaxNodes nodes and of one more, of each kind at the end.
func TestNodes(t *testing.T) {
	passes := func(n int) []api.Stmt {
		var l []api.Stmt
		for range n {
			l = append(l, pass())
		}
		return l
	}
	expectValid(t, "statements", passes(api.MaxNodes))
	expectFault(t, "statements", passes(api.MaxNodes+1), fault(api.ErrTooMany, api.MaxNodes))
	expectFault(t, "many statements", passes(100_000), fault(api.ErrTooMany, api.MaxNodes))
	expectValid(t, "expressions", block(expression(expr(api.ExprList, many(api.MaxNodes-2)...))))
	expectFault(t, "expressions", block(expression(expr(api.ExprList, many(api.MaxNodes-1)...))), fault(api.ErrTooMany, api.MaxNodes))
	patterns := func(n int) []api.Stmt {
		var subs []api.Pattern
		for range n {
			subs = append(subs, pattern(api.PatWild))
		}
		// The pass comes behind the patterns.
		return matching(pattern(api.PatSequence, subs...))
	}
	expectValid(t, "patterns", patterns(api.MaxNodes-4))
	expectFault(t, "patterns", patterns(api.MaxNodes-3), fault(api.ErrTooMany, api.MaxNodes))
	expectFault(t, "patterns", patterns(api.MaxNodes-2), fault(api.ErrTooMany, api.MaxNodes))
	nones := func(n int) []api.Stmt {
		var l []api.Stmt
		for range n {
			l = append(l, expression(expr(api.ExprIndex, name("a"), expr(api.ExprSlice, none(), none(), none()))))
		}
		return l
	}
	// Each of these statements has 7 nodes.
	expectValid(t, "parts of slices", append(nones(api.MaxNodes/7), passes(api.MaxNodes%7)...))
	expectFault(t, "parts of slices", nones(api.MaxNodes/7+1), fault(api.ErrTooMany, api.MaxNodes))
}

// R8.2: what is ahead of an error counts, and what is behind it does not.
func TestNodesAndErrors(t *testing.T) {
	l := make([]api.Stmt, api.MaxNodes)
	for i := range l {
		l[i] = pass()
	}
	expectFault(t, "wrong behind", append(clone(l), stmt(99)), fault(api.ErrTooMany, api.MaxNodes))
	l[api.MaxNodes-1] = stmt(99)
	expectFault(t, "wrong as the last one", append(l, pass()), fault(api.ErrKind, api.MaxNodes-1))
	l[api.MaxNodes-1] = expression(name("a"))
	expectFault(t, "an expression in the last one", l, fault(api.ErrTooMany, api.MaxNodes))
	l[api.MaxNodes-1] = expression(expr(99))
	expectFault(t, "a wrong expression in the last one", l, fault(api.ErrTooMany, api.MaxNodes))
}

// R8.2 and Z1: trees that contain themselves.
func TestCircles(t *testing.T) {
	body := block(with(stmt(api.StmtIf, name("a")), pass()))
	body[0].Body = body
	expectFault(t, "block", body, fault(api.ErrDepth, 2*api.MaxNesting))
	args := list(expr(api.ExprList, name("a")))
	args[0].Args = args
	expectFault(t, "expression", block(expression(args[0])), fault(api.ErrDepth, 1+api.MaxDepth))
	subs := []api.Pattern{pattern(api.PatSequence)}
	subs[0].Subs = subs
	expectFault(t, "pattern", matching(subs[0]), fault(api.ErrDepth, 2+api.MaxDepth))
	wide := list(expr(api.ExprList), expr(api.ExprList), expr(api.ExprList))
	wide[1].Args, wide[2].Args = wide, wide
	expectFault(t, "in several elements", block(expression(expr(api.ExprList, wide...))), fault(api.ErrDepth, wantFault(block(expression(expr(api.ExprList, wide...)))).Index))
	for _, call := range []func() api.Fault{
		func() api.Fault { _, f := tree.Lines(body); return f },
		func() api.Fault { _, f := tree.Shift(body, 1); return f },
		func() api.Fault { _, f := tree.Renumber(body, func(int) int { return 1 }); return f },
		func() api.Fault { _, f := tree.Replace(body, func(e api.Expr) api.Expr { return e }); return f },
	} {
		if f := call(); f != fault(api.ErrDepth, 2*api.MaxNesting) {
			t.Errorf("fault %v", f)
		}
	}
}

// R8.2: lines of each kind of node.
func TestLinesOfNodes(t *testing.T) {
	for _, line := range []int{minInt, -1, 0, 1, 2, api.MaxSource - 1, api.MaxSource, api.MaxSource + 1, maxInt} {
		permitted := line >= 1 && line <= api.MaxSource
		expect := func(what string, l []api.Stmt, at int, permitted bool) {
			t.Helper()
			if permitted {
				expectValid(t, fmt.Sprint(what, " at ", line), l)
			} else {
				expectFault(t, fmt.Sprint(what, " at ", line), l, fault(api.ErrRange, at))
			}
		}
		for kind := api.StmtExpr; kind <= api.StmtMatch; kind++ {
			s := sampleStmt(kind)
			s.Line = line
			expect(fmt.Sprint("statement ", kind), inLoop(s), 3, permitted)
		}
		for kind := api.ExprConst; kind <= api.ExprAwait; kind++ {
			e := sampleExpr(kind)
			_, at := holderOf(e)
			e.Line = line
			l, _ := holderOf(e)
			if kind == api.ExprNone {
				expect("part", l, at, line == 0)
			} else {
				expect(fmt.Sprint("expression ", kind), l, at, permitted)
			}
		}
		for kind := api.PatWild; kind <= api.PatAs; kind++ {
			p := samplePattern(kind)
			p.Line = line
			expect(fmt.Sprint("pattern ", kind), matching(pattern(api.PatSequence, p)), 3, permitted)
		}
	}
}

// R8.2: several errors at one node: the one that is checked first counts.
func TestOrderOfErrors(t *testing.T) {
	a := name("a")
	deep := func(s api.Stmt) []api.Stmt { return block(wrap("IIIIIIIIIIIIIIII", s)) }
	deeper := func(e api.Expr) []api.Stmt {
		return block(expression(nest(api.MaxDepth, e, func(e api.Expr) api.Expr { return expr(api.ExprList, e) })))
	}
	expectFault(t, "depth before kind", deep(api.Stmt{Kind: 99}), fault(api.ErrDepth, 2*api.MaxNesting))
	expectFault(t, "depth before kind", deeper(api.Expr{Kind: 99}), fault(api.ErrDepth, 1+api.MaxDepth))
	expectFault(t, "depth before kind", matching(nest(api.MaxDepth, pattern(99), func(p api.Pattern) api.Pattern { return pattern(api.PatSequence, p) })), fault(api.ErrDepth, 2+api.MaxDepth))
	expectFault(t, "depth before state", deep(stmt(api.StmtBreak)), fault(api.ErrDepth, 2*api.MaxNesting))

	expectFault(t, "kind before line", block(api.Stmt{Kind: 99, Exprs: many(1), Name: "1"}), fault(api.ErrKind, 0))
	expectFault(t, "kind before line", block(expression(api.Expr{Kind: api.ExprStar, Name: "1"})), fault(api.ErrKind, 1))
	expectFault(t, "kind before line", matching(api.Pattern{Kind: api.PatStar, Name: "1", Exprs: many(1)}), fault(api.ErrKind, 2))
	expectFault(t, "kind before form", block(expression(expr(api.ExprFormat, field(0, "", expr(api.ExprFormat, text("x"), text("y")))))), fault(api.ErrKind, 3))

	expectFault(t, "line before form", block(api.Stmt{Kind: api.StmtBreak, Line: 0, Exprs: many(1)}), fault(api.ErrRange, 0))
	expectFault(t, "line before form", block(expression(api.Expr{Kind: api.ExprName, Line: 0, Args: many(1), Name: "1"})), fault(api.ErrRange, 1))
	expectFault(t, "line before form", matching(api.Pattern{Kind: api.PatCapture, Line: api.MaxSource + 1, Subs: []api.Pattern{{}}}), fault(api.ErrRange, 2))
	expectFault(t, "line before form", block(expression(expr(api.ExprIndex, a, expr(api.ExprSlice, api.Expr{Kind: api.ExprNone, Line: 1, Args: many(1)}, none(), none())))), fault(api.ErrRange, 4))

	expectFault(t, "form before name", block(api.Stmt{Kind: api.StmtDef, Line: 1, Name: "1"}), fault(api.ErrForm, 0))
	expectFault(t, "form before name", block(load(api.StmtFrom, "1", "2")), fault(api.ErrForm, 0))
	expectFault(t, "form before name", block(expression(api.Expr{Kind: api.ExprAttr, Line: 1, Name: "1"})), fault(api.ErrForm, 1))
	expectFault(t, "form before name", matching(capture(api.PatAs, "_")), fault(api.ErrForm, 2))
	expectFault(t, "form before name", block(try(0, handler("1", nil, pass()))), fault(api.ErrForm, 0))
	expectFault(t, "form before repetition", matching(classPattern(a, []string{"x", "x"}, pattern(api.PatWild))), fault(api.ErrForm, 2))
	expectFault(t, "form before repetition", block(api.Stmt{Kind: api.StmtGlobal, Line: 1, Names: []string{"x", "x"}, Async: true}), fault(api.ErrForm, 0))
	expectFault(t, "form before order", block(class("c", list(named("n", a), a))), fault(api.ErrForm, 0))
	expectFault(t, "form before parameters", block(def("f", []api.Param{param(9, "1")})), fault(api.ErrForm, 0))
	expectFault(t, "form before parameters", block(expression(api.Expr{Kind: api.ExprFn, Line: 1, Params: plain("1")})), fault(api.ErrForm, 1))
	expectFault(t, "form before parameters", block(api.Stmt{Kind: api.StmtPass, Line: 1, Params: plain("1")}), fault(api.ErrForm, 0))
	expectFault(t, "form before state", block(stmt(api.StmtBreak, a)), fault(api.ErrForm, 0))
	expectFault(t, "form before state", block(expression(expr(api.ExprYield, many(2)...))), fault(api.ErrForm, 1))

	expectFault(t, "name before repetition", block(declare(api.StmtGlobal, "1", "1")), fault(api.ErrName, 0))
	expectFault(t, "name before repetition", matching(classPattern(a, []string{"x", "x", "1"}, pattern(api.PatWild), pattern(api.PatWild), pattern(api.PatWild))), fault(api.ErrName, 2))
	expectFault(t, "name before repetition", block(class("1", list(named("n", a), named("n", a)), pass())), fault(api.ErrName, 0))
	expectFault(t, "name before parameters", block(def("1", []api.Param{param(9, "p")}, pass())), fault(api.ErrName, 0))
	expectFault(t, "name before state", block(declare(api.StmtOuter, "1")), fault(api.ErrName, 0))
	expectFault(t, "repetition before order", block(class("c", list(named("n", a), named("n", a), a), pass())), fault(api.ErrRepeated, 0))
	expectFault(t, "repetition before order", block(expression(expr(api.ExprCall, a, named("n", a), a, named("n", a)))), fault(api.ErrRepeated, 1))
	expectFault(t, "repetition before state", block(declare(api.StmtOuter, "x", "x")), fault(api.ErrRepeated, 0))
}

// R8.2: errors at several nodes: that of the first node counts, whatever it is.
func TestFirstNode(t *testing.T) {
	a, wrong := name("a"), name("1")
	expectFault(t, "statement before its expression", block(stmt(api.StmtBreak), expression(wrong)), fault(api.ErrState, 0))
	expectFault(t, "expression before the next statement", block(expression(wrong), stmt(99)), fault(api.ErrName, 1))
	expectFault(t, "call before its arguments", block(expression(expr(api.ExprCall, wrong, named("n", a), wrong))), fault(api.ErrOrder, 1))
	expectFault(t, "Exprs before Args", block(decorated(class("c", list(expr(99)), pass()), wrong)), fault(api.ErrName, 1))
	expectFault(t, "Exprs before defaults", block(decorated(def("f", []api.Param{param(api.ParamPlain, "p", expr(99))}, pass()), wrong)), fault(api.ErrName, 1))
	expectFault(t, "Args before Body", block(class("c", list(wrong), stmt(99))), fault(api.ErrName, 1))
	expectFault(t, "defaults before Body", block(def("f", []api.Param{param(api.ParamPlain, "p", wrong)}, stmt(99))), fault(api.ErrName, 1))
	expectFault(t, "value before target", block(using(item(wrong, number(1)))), fault(api.ErrName, 1))
	expectFault(t, "target before the next value", block(using(item(a, number(1)), item(wrong))), fault(api.ErrKind, 2))
	expectFault(t, "items before Body", block(with(using(item(wrong)), stmt(99))), fault(api.ErrName, 1))
	expectFault(t, "handlers before Body", block(with(try(0, handler("", list(wrong), pass())), stmt(99))), fault(api.ErrName, 1))
	expectFault(t, "class before Body of a handler", block(try(0, handler("", list(wrong), stmt(99)))), fault(api.ErrName, 1))
	expectFault(t, "Body of a handler before the next one", block(try(0, handler("", list(a), stmt(99)), handler("", list(wrong), pass()))), fault(api.ErrKind, 2))
	expectFault(t, "Body before Else", block(orElse(with(stmt(api.StmtIf, a), stmt(99)), expression(wrong))), fault(api.ErrKind, 2))
	expectFault(t, "Else before Final", block(finally(orElse(try(0, handler("", nil, pass())), stmt(99)), expression(wrong))), fault(api.ErrKind, 3))
	expectFault(t, "pattern before guard", block(match(option(pattern(99), list(wrong), pass()))), fault(api.ErrKind, 2))
	expectFault(t, "guard before Body", block(match(option(pattern(api.PatWild), list(wrong), stmt(99)))), fault(api.ErrName, 3))
	expectFault(t, "Body before the next case", block(match(option(pattern(api.PatWild), nil, stmt(99)), option(pattern(99), nil, pass()))), fault(api.ErrKind, 3))
	expectFault(t, "keys before patterns", matching(mapping("", list(a), pattern(99))), fault(api.ErrKind, 3))
	expectFault(t, "arguments before defaults", block(expression(fn([]api.Param{param(api.ParamPlain, "p", expr(99))}, wrong))), fault(api.ErrName, 2))
	expectFault(t, "arguments before loops", block(expression(comprehension(api.ExprList, wrong, loop(number(1), expr(99))))), fault(api.ErrName, 2))
	expectFault(t, "target before iterable", block(expression(comprehension(api.ExprList, a, loop(number(1), wrong)))), fault(api.ErrKind, 3))
	expectFault(t, "iterable before conditions", block(expression(comprehension(api.ExprList, a, loop(a, wrong, expr(99))))), fault(api.ErrName, 4))
	expectFault(t, "conditions before the next loop", block(expression(comprehension(api.ExprList, a, loop(a, a, wrong), loop(number(1), a)))), fault(api.ErrName, 5))
}
