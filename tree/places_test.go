package tree_test

import (
	"fmt"
	"slices"
	"testing"

	"brindlewood/api"
)

// spot is a place of an expression, the number of the node that stands there, and the kinds that may.
type spot struct {
	what    string
	put     func(e api.Expr) []api.Stmt
	at      int
	allowed []int
}

var (
	values = []int{
		api.ExprConst, api.ExprName, api.ExprSuper, api.ExprTuple, api.ExprList, api.ExprSet, api.ExprDict, api.ExprUnary, api.ExprBinary, api.ExprAnd, api.ExprOr,
		api.ExprCompare, api.ExprIf, api.ExprAttr, api.ExprIndex, api.ExprCall, api.ExprFn, api.ExprFormat, api.ExprLoops, api.ExprYield, api.ExprFrom, api.ExprAwait,
	}
	elements   = append([]int{api.ExprStar}, values...)
	constants  = []int{api.ExprConst, api.ExprUnary, api.ExprAttr}
	references = []int{api.ExprName, api.ExprAttr}
	inner      = append([]int{api.ExprStar}, targets...)
)

// inExpr is a tree with an expression in another one, at a place of the kind of a value.
func inExpr(around func(e api.Expr) api.Expr) func(e api.Expr) []api.Stmt {
	return func(e api.Expr) []api.Stmt { return block(expression(around(e))) }
}

// assigning is a tree with an expression in the target of an assignment.
func assigning(around func(e api.Expr) api.Expr) func(e api.Expr) []api.Stmt {
	return func(e api.Expr) []api.Stmt { return block(stmt(api.StmtAssign, around(e), name("v"))) }
}

// inConstant is a tree with an expression in a pattern.
func inConstant(around func(e api.Expr) api.Pattern) func(e api.Expr) []api.Stmt {
	return func(e api.Expr) []api.Stmt { return matching(around(e)) }
}

func spotsInStmts() []spot {
	a, b := name("a"), name("b")
	in := func(s func(e api.Expr) api.Stmt) func(e api.Expr) []api.Stmt {
		return func(e api.Expr) []api.Stmt { return block(s(e)) }
	}
	return []spot{
		{"expression", in(expression), 1, values},
		{"assign, first", in(func(e api.Expr) api.Stmt { return stmt(api.StmtAssign, e, a, b) }), 1, targets},
		{"assign, second", in(func(e api.Expr) api.Stmt { return stmt(api.StmtAssign, a, e, b) }), 2, targets},
		{"assign, last", in(func(e api.Expr) api.Stmt { return stmt(api.StmtAssign, a, b, e) }), 3, values},
		{"augment, target", in(func(e api.Expr) api.Stmt { return augment(api.OpAdd, e, a) }), 1, simpleTargets},
		{"augment, value", in(func(e api.Expr) api.Stmt { return augment(api.OpAdd, a, e) }), 2, values},
		{"del, first", in(func(e api.Expr) api.Stmt { return stmt(api.StmtDel, e, a) }), 1, simpleTargets},
		{"del, last", in(func(e api.Expr) api.Stmt { return stmt(api.StmtDel, a, e) }), 2, simpleTargets},
		{"return", func(e api.Expr) []api.Stmt { return block(def("f", nil, stmt(api.StmtReturn, e))) }, 2, values},
		{"raise", in(func(e api.Expr) api.Stmt { return stmt(api.StmtRaise, e, a) }), 1, values},
		{"raise from", in(func(e api.Expr) api.Stmt { return stmt(api.StmtRaise, a, e) }), 2, values},
		{"assert", in(func(e api.Expr) api.Stmt { return stmt(api.StmtAssert, a, e) }), 2, values},
		{"if", in(func(e api.Expr) api.Stmt { return with(stmt(api.StmtIf, e), pass()) }), 1, values},
		{"while", in(func(e api.Expr) api.Stmt { return with(stmt(api.StmtWhile, e), pass()) }), 1, values},
		{"for, target", in(func(e api.Expr) api.Stmt { return with(stmt(api.StmtFor, e, a), pass()) }), 1, targets},
		{"for, iterable", in(func(e api.Expr) api.Stmt { return with(stmt(api.StmtFor, a, e), pass()) }), 2, values},
		{"match", in(func(e api.Expr) api.Stmt {
			return api.Stmt{Kind: api.StmtMatch, Line: 1, Exprs: list(e), Cases: []api.Case{option(pattern(api.PatWild), nil, pass())}}
		}), 1, values},
		{"guard", in(func(e api.Expr) api.Stmt { return match(option(pattern(api.PatWild), list(e), pass())) }), 3, values},
		{"decorator of a def", in(func(e api.Expr) api.Stmt { return decorated(def("f", nil, pass()), a, e) }), 2, values},
		{"decorator of a class", in(func(e api.Expr) api.Stmt { return decorated(class("c", nil, pass()), a, e) }), 2, values},
		{"argument of a class", in(func(e api.Expr) api.Stmt { return class("c", list(e), pass()) }), 1, append([]int{api.ExprNamed}, values...)},
		{"default of a def", in(func(e api.Expr) api.Stmt { return def("f", []api.Param{param(api.ParamPlain, "p", e)}, pass()) }), 1, values},
		{"value of an item", in(func(e api.Expr) api.Stmt { return using(item(e, a)) }), 1, values},
		{"target of an item", in(func(e api.Expr) api.Stmt { return using(item(a, e)) }), 2, targets},
		{"class of a handler", in(func(e api.Expr) api.Stmt { return try(0, handler("", list(e), pass())) }), 1, values},
	}
}

func spotsInExprs() []spot {
	a, b := name("a"), name("b")
	l := []spot{
		{"callee", inExpr(func(e api.Expr) api.Expr { return expr(api.ExprCall, e, a) }), 2, values},
		{"argument", inExpr(func(e api.Expr) api.Expr { return expr(api.ExprCall, a, e) }), 3, append([]int{api.ExprNamed, api.ExprPairs}, elements...)},
		{"last argument", inExpr(func(e api.Expr) api.Expr { return expr(api.ExprCall, a, b, b, e) }), 5, append([]int{api.ExprNamed, api.ExprPairs}, elements...)},
		{"indexed", inExpr(func(e api.Expr) api.Expr { return expr(api.ExprIndex, e, a) }), 2, values},
		{"subscript", inExpr(func(e api.Expr) api.Expr { return expr(api.ExprIndex, a, e) }), 3, append([]int{api.ExprSlice}, values...)},
		{"segment", inExpr(func(e api.Expr) api.Expr { return expr(api.ExprFormat, e) }), 2, []int{api.ExprConst, api.ExprField}},
		{"field", inExpr(func(e api.Expr) api.Expr { return expr(api.ExprFormat, field(0, "", e)) }), 3, slices.DeleteFunc(slices.Clone(values), func(kind int) bool { return kind == api.ExprFormat })},
		{"item", inExpr(func(e api.Expr) api.Expr { return expr(api.ExprDict, e) }), 2, []int{api.ExprPair, api.ExprPairs}},
		{"key", inExpr(func(e api.Expr) api.Expr { return expr(api.ExprDict, expr(api.ExprPair, e, a)) }), 3, values},
		{"value of a pair", inExpr(func(e api.Expr) api.Expr { return expr(api.ExprDict, expr(api.ExprPair, a, e)) }), 4, values},
		{"pairs", inExpr(func(e api.Expr) api.Expr { return expr(api.ExprDict, expr(api.ExprPairs, e)) }), 3, values},
		{"star", inExpr(func(e api.Expr) api.Expr { return expr(api.ExprList, expr(api.ExprStar, e)) }), 3, values},
		{"star as an argument", inExpr(func(e api.Expr) api.Expr { return expr(api.ExprCall, a, expr(api.ExprStar, e)) }), 4, values},
		{"named", inExpr(func(e api.Expr) api.Expr { return expr(api.ExprCall, a, named("n", e)) }), 4, values},
		{"attribute", inExpr(func(e api.Expr) api.Expr { return attr(e, "n") }), 2, values},
		{"fn", inExpr(func(e api.Expr) api.Expr { return fn(nil, e) }), 2, values},
		{"default of fn", inExpr(func(e api.Expr) api.Expr { return fn([]api.Param{param(api.ParamPlain, "p", e)}, a) }), 3, values},
		{"yield", func(e api.Expr) []api.Stmt { return block(def("f", nil, expression(expr(api.ExprYield, e)))) }, 3, values},
		{"yield from", func(e api.Expr) []api.Stmt { return block(def("f", nil, expression(expr(api.ExprFrom, e)))) }, 3, values},
		{"await", func(e api.Expr) []api.Stmt { return block(async(def("f", nil, expression(expr(api.ExprAwait, e))))) }, 3, values},
		{"loops", inExpr(func(e api.Expr) api.Expr { return comprehension(api.ExprTuple, e, loop(a, b)) }), 2, values},
		{"target of a loop", inExpr(func(e api.Expr) api.Expr { return comprehension(api.ExprSet, a, loop(e, b)) }), 3, targets},
		{"iterable of a loop", inExpr(func(e api.Expr) api.Expr { return comprehension(api.ExprList, a, loop(b, e)) }), 4, values},
		{"condition of a loop", inExpr(func(e api.Expr) api.Expr { return comprehension(api.ExprList, a, loop(b, b, b, e)) }), 6, values},
		{"target of a second loop", inExpr(func(e api.Expr) api.Expr { return comprehension(api.ExprList, a, loop(b, b), loop(e, b)) }), 5, targets},
		{"iterable of a second loop", inExpr(func(e api.Expr) api.Expr { return comprehension(api.ExprList, a, loop(b, b), loop(a, e)) }), 6, values},
	}
	for _, kind := range []int{api.ExprTuple, api.ExprList, api.ExprSet} {
		l = append(l, spot{fmt.Sprint("element of ", kind), inExpr(func(e api.Expr) api.Expr { return expr(kind, a, e) }), 3, elements})
	}
	for _, kind := range []int{api.ExprAnd, api.ExprOr} {
		l = append(l, spot{fmt.Sprint("operand of ", kind), inExpr(func(e api.Expr) api.Expr { return expr(kind, a, e) }), 3, values})
	}
	for i := range 3 {
		triple := func(kind int) func(e api.Expr) api.Expr {
			return func(e api.Expr) api.Expr {
				args := list(a, a, a)
				args[i] = e
				return expr(kind, args...)
			}
		}
		l = append(l, spot{fmt.Sprint("if ", i), inExpr(triple(api.ExprIf)), 2 + i, values},
			spot{fmt.Sprint("part ", i), inExpr(func(e api.Expr) api.Expr { return expr(api.ExprIndex, a, triple(api.ExprSlice)(e)) }), 4 + i, append([]int{api.ExprNone}, values...)},
			spot{fmt.Sprint("comparison ", i), inExpr(func(e api.Expr) api.Expr {
				args := list(a, a, a)
				args[i] = e
				return compare([]int{api.CmpIs, api.CmpIn}, args...)
			}), 2 + i, values})
	}
	return append(l, spot{"unary", inExpr(func(e api.Expr) api.Expr { return operation(api.ExprUnary, api.OpNot, e) }), 2, values},
		spot{"binary", inExpr(func(e api.Expr) api.Expr { return operation(api.ExprBinary, api.OpSub, e, a) }), 2, values})
}

// spotsInTargets are places in targets and patterns.
func spotsInTargets() []spot {
	a := name("a")
	star := func(e api.Expr) api.Expr { return expr(api.ExprStar, e) }
	l := []spot{
		{"tuple in a list", assigning(func(e api.Expr) api.Expr { return expr(api.ExprList, a, expr(api.ExprTuple, e)) }), 4, inner},
		{"star", assigning(func(e api.Expr) api.Expr { return expr(api.ExprTuple, a, star(e)) }), 4, targets},
		{"list behind a star", assigning(func(e api.Expr) api.Expr { return expr(api.ExprTuple, star(expr(api.ExprList, e))) }), 4, inner},
		{"star behind a star", assigning(func(e api.Expr) api.Expr { return expr(api.ExprTuple, star(expr(api.ExprTuple, star(e)))) }), 5, targets},
		{"object of an attribute", assigning(func(e api.Expr) api.Expr { return attr(e, "n") }), 2, values},
		{"object of an index", assigning(func(e api.Expr) api.Expr { return expr(api.ExprIndex, e, a) }), 2, values},
		{"subscript", assigning(func(e api.Expr) api.Expr { return expr(api.ExprIndex, a, e) }), 3, append([]int{api.ExprSlice}, values...)},
		{"tuple in a subscript", assigning(func(e api.Expr) api.Expr { return expr(api.ExprIndex, a, expr(api.ExprTuple, e)) }), 4, elements},
		{"object in a tuple", assigning(func(e api.Expr) api.Expr { return expr(api.ExprTuple, attr(e, "n")) }), 3, values},
		{"target of an item", func(e api.Expr) []api.Stmt { return block(using(item(a, expr(api.ExprTuple, e)))) }, 3, inner},
		{"target of a loop", inExpr(func(e api.Expr) api.Expr { return comprehension(api.ExprList, a, loop(expr(api.ExprList, e), a)) }), 4, inner},
		{"target of a for", func(e api.Expr) []api.Stmt {
			return block(with(stmt(api.StmtFor, expr(api.ExprTuple, e), a), pass()))
		}, 2, inner},
		{"value of an assign", func(e api.Expr) []api.Stmt { return block(stmt(api.StmtAssign, a, expr(api.ExprTuple, e))) }, 3, elements},
		{"value", inConstant(constantPattern), 3, constants},
		{"key of a mapping", inConstant(func(e api.Expr) api.Pattern {
			return mapping("", list(number(1), e), pattern(api.PatWild), pattern(api.PatWild))
		}), 4, constants},
		{"class", inConstant(func(e api.Expr) api.Pattern { return classPattern(e, nil) }), 3, references},
		{"attribute as a value", inConstant(func(e api.Expr) api.Pattern { return constantPattern(attr(e, "n")) }), 4, references},
		{"attribute as a class", inConstant(func(e api.Expr) api.Pattern { return classPattern(attr(e, "n"), nil) }), 4, references},
		{"attribute of an attribute", inConstant(func(e api.Expr) api.Pattern { return constantPattern(attr(attr(e, "n"), "m")) }), 5, references},
		{"attribute of an attribute of a class", inConstant(func(e api.Expr) api.Pattern { return classPattern(attr(attr(e, "n"), "m"), nil) }), 5, references},
	}
	for _, kind := range []int{api.ExprTuple, api.ExprList} {
		l = append(l, spot{fmt.Sprint("inner target in ", kind), assigning(func(e api.Expr) api.Expr { return expr(kind, a, e) }), 3, inner})
	}
	return l
}

// R8.2: every kind of expression at every place: the fault is at the expression if it may not stand there.
func TestPlaces(t *testing.T) {
	withState := []int{api.ExprSuper, api.ExprYield, api.ExprFrom, api.ExprAwait}
	for _, s := range slices.Concat(spotsInStmts(), spotsInExprs(), spotsInTargets()) {
		for kind := api.ExprConst; kind <= api.ExprAwait; kind++ {
			what := fmt.Sprint(s.what, ", kind ", kind)
			l := s.put(sampleExpr(kind))
			switch {
			case kind == api.ExprStar && s.what == "argument of a class", kind == api.ExprPairs && s.what == "argument of a class":
				expectFault(t, what, l, fault(api.ErrForm, 0))
			case kind == api.ExprPair && s.what == "loops":
				expectFault(t, what, l, fault(api.ErrForm, 1))
			case !slices.Contains(s.allowed, kind):
				expectFault(t, what, l, fault(api.ErrKind, s.at))
			case slices.Contains(withState, kind):
				// Their contexts have tests of their own: here they have no fault, or that of the state.
				expectStateOrNone(t, what, l, s.at)
			default:
				expectValid(t, what, l)
			}
		}
		for _, kind := range []int{minInt, -1, 0, 30, 31, maxInt} {
			expectFault(t, fmt.Sprint(s.what, ", kind ", kind), s.put(expr(kind)), fault(api.ErrKind, s.at))
			expectFault(t, fmt.Sprint(s.what, ", kind ", kind), s.put(api.Expr{Kind: kind}), fault(api.ErrKind, s.at))
		}
	}
}

// expectStateOrNone checks that a tree has no fault, or the error ErrState at a node.
func expectStateOrNone(t *testing.T, what string, l []api.Stmt, at int) {
	t.Helper()
	want := wantFault(l)
	if want != noFault && want != fault(api.ErrState, at) {
		t.Errorf("%s: the oracle's fault is %v", what, want)
	}
	expectOracle(t, what, l)
}

// R8.2: the element of a comprehension is a pair exactly in a dict; what else may stand there is told by the comprehension.
func TestPlacesOfElements(t *testing.T) {
	a := name("a")
	pair, pairs := expr(api.ExprPair, a, a), expr(api.ExprPairs, a)
	for _, op := range []int{api.ExprTuple, api.ExprList, api.ExprSet} {
		expectValid(t, "element", block(expression(comprehension(op, a, loop(a, a)))))
		expectFault(t, "pair", block(expression(comprehension(op, pair, loop(a, a)))), fault(api.ErrForm, 1))
		expectFault(t, "pairs", block(expression(comprehension(op, pairs, loop(a, a)))), fault(api.ErrKind, 2))
		expectFault(t, "star", block(expression(comprehension(op, expr(api.ExprStar, a), loop(a, a)))), fault(api.ErrKind, 2))
	}
	expectValid(t, "pair", block(expression(comprehension(api.ExprDict, pair, loop(a, a)))))
	expectFault(t, "value", block(expression(comprehension(api.ExprDict, a, loop(a, a)))), fault(api.ErrForm, 1))
	expectFault(t, "pairs", block(expression(comprehension(api.ExprDict, pairs, loop(a, a)))), fault(api.ErrForm, 1))
	for _, op := range []int{minInt, -1, 0, api.ExprTuple - 1, api.ExprDict + 1, maxInt} {
		expectFault(t, "op", block(expression(comprehension(op, a, loop(a, a)))), fault(api.ErrForm, 1))
		expectFault(t, "op", block(expression(comprehension(op, pair, loop(a, a)))), fault(api.ErrForm, 1))
	}
}

// R8.2: an ExprFormat does not stand in an ExprField, however deep.
func TestFormatInField(t *testing.T) {
	a, format := name("a"), expr(api.ExprFormat)
	for what, c := range map[string]struct {
		e  api.Expr
		at int
	}{
		"directly":                {format, 3},
		"in a call":               {expr(api.ExprCall, a, format), 5},
		"in a default":            {fn([]api.Param{param(api.ParamPlain, "p", format)}, a), 5},
		"in fn":                   {fn(nil, format), 4},
		"in a comprehension":      {comprehension(api.ExprList, format, loop(a, a)), 4},
		"in its first iterable":   {comprehension(api.ExprList, a, loop(a, format)), 6},
		"in its condition":        {comprehension(api.ExprList, a, loop(a, a, format)), 7},
		"in a fn in a fn":         {fn(nil, fn(nil, expr(api.ExprTuple, format))), 6},
		"in a subscript's target": {comprehension(api.ExprList, a, loop(expr(api.ExprIndex, a, format), a)), 7},
	} {
		expectFault(t, what, block(expression(expr(api.ExprFormat, field(0, "", c.e)))), fault(api.ErrKind, c.at))
		expectValid(t, what+" beside a field", block(expression(expr(api.ExprTuple, expr(api.ExprFormat, field(0, "", a)), c.e))))
	}
	expectValid(t, "the next one", block(expression(expr(api.ExprTuple, expr(api.ExprFormat, field(0, "", a)), format)), expression(format)))
}

// R8.2: kinds of statements in each kind of block.
func TestKinds(t *testing.T) {
	for _, kind := range []int{minInt, -1, 0, api.StmtMatch + 1, maxInt} {
		for _, b := range blocks(stmt(kind)) {
			expectFault(t, b.what, b.l, fault(api.ErrKind, b.at))
		}
	}
	for kind := api.StmtExpr; kind <= api.StmtMatch; kind++ {
		for _, b := range blocks(sampleStmt(kind)) {
			expectStateOrNone(t, fmt.Sprint(b.what, ", kind ", kind), b.l, b.at)
		}
	}
}

// blockAround is a tree with a statement in some block, and the number of the statement.
type blockAround struct {
	what string
	l    []api.Stmt
	at   int
}

// blocks are trees with a statement in each kind of block.
func blocks(s api.Stmt) []blockAround {
	a := name("a")
	return []blockAround{
		{"module", block(pass(), s), 1},
		{"if", block(with(stmt(api.StmtIf, a), pass(), s)), 3},
		{"else", block(orElse(with(stmt(api.StmtIf, a), pass()), s)), 3},
		{"while", block(with(stmt(api.StmtWhile, a), s)), 2},
		{"for", block(with(stmt(api.StmtFor, a, a), s)), 3},
		{"def", block(def("f", nil, s)), 1},
		{"class", block(class("c", nil, s)), 1},
		{"with", block(with(using(item(a)), s)), 2},
		{"try", block(finally(with(try(0), s), pass())), 1},
		{"handler", block(try(0, handler("", nil, s))), 1},
		{"finally", block(finally(try(0), s)), 2},
		{"case", block(match(option(pattern(api.PatWild), nil, s))), 3},
	}
}

// R8.2: a PatStar stands only in Subs of a PatSequence.
func TestPlacesOfPatterns(t *testing.T) {
	wild := pattern(api.PatWild)
	within := map[string]func(p api.Pattern) (api.Pattern, int){
		"case":     func(p api.Pattern) (api.Pattern, int) { return p, 2 },
		"sequence": func(p api.Pattern) (api.Pattern, int) { return pattern(api.PatSequence, wild, p), 4 },
		"mapping":  func(p api.Pattern) (api.Pattern, int) { return mapping("", list(number(1)), p), 4 },
		"class":    func(p api.Pattern) (api.Pattern, int) { return classPattern(name("c"), nil, p), 4 },
		"named":    func(p api.Pattern) (api.Pattern, int) { return classPattern(name("c"), []string{"n"}, p), 4 },
		"or":       func(p api.Pattern) (api.Pattern, int) { return pattern(api.PatOr, wild, p), 4 },
		"as":       func(p api.Pattern) (api.Pattern, int) { return capture(api.PatAs, "n", p), 3 },
		"or in a sequence": func(p api.Pattern) (api.Pattern, int) {
			return pattern(api.PatSequence, pattern(api.PatOr, p, wild)), 4
		},
	}
	for what, put := range within {
		for kind := api.PatWild; kind <= api.PatAs; kind++ {
			p, at := put(samplePattern(kind))
			if kind == api.PatStar && what != "sequence" {
				expectFault(t, what, matching(p), fault(api.ErrKind, at))
			} else {
				expectValid(t, fmt.Sprint(what, ", kind ", kind), matching(p))
			}
		}
		for _, kind := range []int{minInt, -1, 0, api.PatAs + 1, maxInt} {
			p, at := put(pattern(kind))
			expectFault(t, what, matching(p), fault(api.ErrKind, at))
		}
	}
}
