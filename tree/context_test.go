package tree_test

import (
	"math/rand"
	"regexp"
	"strings"
	"testing"

	"brindlewood/api"
	"brindlewood/tree"
)

// around is a statement with another one in one of its blocks. A letter says which statement and which block: W and w are Body and Else of a while, F and f those of a for, I and i those of an if, T, E and L are Body, Else and Final of a try, H and S are Body of a handler without and with Op 1, B that of a with, M that of a case, D, O and A are Body of a def: with a plain parameter, without parameters, and one that is Async, with a parameter; and C is that of a class.
func around(letter rune, inner api.Stmt) api.Stmt {
	a := name("a")
	caught := handler("", list(a), pass())
	switch letter {
	case 'W':
		return with(stmt(api.StmtWhile, a), inner)
	case 'w':
		return orElse(with(stmt(api.StmtWhile, a), pass()), inner)
	case 'F':
		return with(stmt(api.StmtFor, a, a), inner)
	case 'f':
		return orElse(with(stmt(api.StmtFor, a, a), pass()), inner)
	case 'I':
		return with(stmt(api.StmtIf, a), inner)
	case 'i':
		return orElse(with(stmt(api.StmtIf, a), pass()), inner)
	case 'T':
		return with(try(1, caught), inner)
	case 'E':
		return orElse(try(1, caught), inner)
	case 'L':
		return finally(try(1, caught), inner)
	case 'H':
		return try(0, caught, handler("", nil, inner))
	case 'S':
		return try(1, caught, handler("", list(a), inner))
	case 'B':
		return with(using(item(a)), inner)
	case 'M':
		return match(option(pattern(api.PatWild), nil, inner))
	case 'D':
		return def("f", plain("self"), inner)
	case 'O':
		return def("f", nil, inner)
	case 'A':
		return async(def("f", []api.Param{param(api.ParamPlain, "self", a)}, inner))
	case 'C':
		return class("c", nil, inner)
	}
	panic("no such letter: " + string(letter))
}

// holder is a statement with an expression in it: e is an expression, d and p are decorator and default of a def, r and q decorator and argument of a class, n is the class of a handler with Op 1, m a guard, y the value of an item and z a subscript in its target.
func holder(letter rune, e api.Expr) api.Stmt {
	a := name("a")
	switch letter {
	case 'e':
		return expression(e)
	case 'd':
		return decorated(def("f", plain("self"), pass()), e)
	case 'p':
		return def("f", []api.Param{param(api.ParamPlain, "self", e)}, pass())
	case 'r':
		return decorated(class("c", nil, pass()), e)
	case 'q':
		return class("c", list(e), pass())
	case 'n':
		return try(1, handler("", list(e), pass()))
	case 'm':
		return match(option(pattern(api.PatWild), list(e), pass()))
	case 'y':
		return using(item(e))
	case 'z':
		return using(item(a, expr(api.ExprIndex, a, e)))
	}
	panic("no such letter: " + string(letter))
}

// outside is an expression with another one in it: t is a tuple, x a field, f and g are the argument of a fn with and without a plain parameter, h is its default, l is the element of a comprehension, u a subscript in its target, i its first iterable, k its condition, and j its second iterable.
func outside(letter rune, e api.Expr) api.Expr {
	a := name("a")
	switch letter {
	case 't':
		return expr(api.ExprTuple, e)
	case 'x':
		return expr(api.ExprFormat, field(0, "", e))
	case 'f':
		return fn(plain("self"), e)
	case 'g':
		return fn([]api.Param{param(api.ParamStar, "l")}, e)
	case 'h':
		return fn([]api.Param{param(api.ParamPlain, "self", e)}, a)
	case 'l':
		return comprehension(api.ExprTuple, e, loop(a, a))
	case 'u':
		return comprehension(api.ExprList, a, loop(expr(api.ExprIndex, a, e), a))
	case 'i':
		return comprehension(api.ExprList, a, loop(a, e, a), loop(a, a))
	case 'k':
		return comprehension(api.ExprList, a, loop(a, a, e))
	case 'j':
		return comprehension(api.ExprList, a, loop(a, a), loop(a, e))
	}
	panic("no such letter: " + string(letter))
}

const holeLine = 7

// wrap puts a statement into others, the last letter being the innermost one.
func wrap(letters string, s api.Stmt) api.Stmt {
	for i := len(letters) - 1; i >= 0; i-- {
		s = around(rune(letters[i]), s)
	}
	return s
}

// expectState checks that the only error of a tree, if it has one, is ErrState at the node at holeLine.
func expectState(t *testing.T, path string, l []api.Stmt, permitted bool) {
	t.Helper()
	want := noFault
	if !permitted {
		for i, n := range flatten(l) {
			if n.stmt != nil && n.stmt.Line == holeLine || n.expr != nil && n.expr.Line == holeLine {
				want = fault(api.ErrState, i)
			}
		}
	}
	if got := tree.Validate(l); got != want {
		t.Errorf("%s: fault %v, want %v", path, got, want)
	}
}

// forPaths calls a function with all texts of up to some letters.
func forPaths(letters string, most int, visit func(path string)) {
	var extend func(path string, most int)
	extend = func(path string, most int) {
		visit(path)
		if most > 0 {
			for _, letter := range letters {
				extend(path+string(letter), most-1)
			}
		}
	}
	extend("", most)
}

const stmtLetters = "WwFfIiTELHSBMDOAC"

// Where statements may stand: what there must be in a path, and what not behind it.
var (
	leaving  = regexp.MustCompile(`[WF][^DOACS]*$`)
	giving   = regexp.MustCompile(`[DOA][^CS]*$`)
	outering = regexp.MustCompile(`[DOA][^C]*$`)
)

// expectStmtStates checks the statements that depend on their context at the end of a path.
func expectStmtStates(t *testing.T, path string) {
	t.Helper()
	for kind, permitted := range map[int]*regexp.Regexp{api.StmtBreak: leaving, api.StmtContinue: leaving, api.StmtReturn: giving, api.StmtOuter: outering} {
		s := sampleStmt(kind)
		s.Line = holeLine
		expectState(t, path, block(pass(), wrap(path, s)), permitted.MatchString(path))
	}
}

// R8.2: contexts of statements, in all blocks within blocks within blocks.
func TestStmtStates(t *testing.T) {
	forPaths(stmtLetters, 3, func(path string) { expectStmtStates(t, path) })
	chance := rand.New(rand.NewSource(83))
	for range 5000 {
		var path strings.Builder
		for range 4 + chance.Intn(api.MaxNesting-4) {
			path.WriteByte(stmtLetters[chance.Intn(len(stmtLetters))])
		}
		expectStmtStates(t, path.String())
	}
}

// Where expressions may stand. The letters of what they can stand directly in are those of def and class, and f, g, l, u, k and j of expressions; those of expressions and of statements are told apart by a blank.
var (
	yielding = regexp.MustCompile(`[DO][^DOAC]* .[^fglukj]*$| .*[fg][^fglukj]*$`)
	awaiting = regexp.MustCompile(`A[^DOAC]* .[^fglukj]*$`)
	method   = regexp.MustCompile(`C[^DOAC]*[DA][^DOAC]* .[^fglukj]*$|C[^DOAC]* .[^fglukj]*f[^fglukj]*$`)
)

// expectExprStates checks the expressions that depend on their context at the end of a path.
func expectExprStates(t *testing.T, stmts string, held rune, exprs string) {
	t.Helper()
	if strings.Count(exprs, "x") > 1 {
		return
	}
	path := stmts + " " + string(held) + exprs
	for kind, permitted := range map[int]*regexp.Regexp{api.ExprYield: yielding, api.ExprFrom: yielding, api.ExprAwait: awaiting, api.ExprSuper: method} {
		e := sampleExpr(kind)
		e.Line = holeLine
		for i := len(exprs) - 1; i >= 0; i-- {
			e = outside(rune(exprs[i]), e)
		}
		expectState(t, path, block(pass(), wrap(stmts, holder(held, e))), permitted.MatchString(path))
	}
}

const (
	holderLetters = "edprqnmyz"
	exprLetters   = "txfghluikj"
)

// R8.2: contexts of expressions, in all blocks in blocks, and in all expressions in expressions.
func TestExprStates(t *testing.T) {
	forPaths("ISDOAC", 2, func(stmts string) {
		for _, held := range holderLetters {
			forPaths(exprLetters, 2, func(exprs string) { expectExprStates(t, stmts, held, exprs) })
		}
	})
	chance := rand.New(rand.NewSource(84))
	some := func(letters string, most int) string {
		var s strings.Builder
		for range chance.Intn(most + 1) {
			s.WriteByte(letters[chance.Intn(len(letters))])
		}
		return s.String()
	}
	for range 20_000 {
		expectExprStates(t, some(stmtLetters, 6)+some("CDAIB", 4), rune(holderLetters[chance.Intn(len(holderLetters))]), some(exprLetters, 6))
	}
}

// R8.2: super in functions with each kind of first parameter.
func TestSuperParams(t *testing.T) {
	super := expr(api.ExprSuper)
	star, only, bare := param(api.ParamStar, "l"), param(api.ParamOnly, "o"), param(api.ParamStar, "")
	for _, c := range []struct {
		params    []api.Param
		permitted bool
	}{
		{plain("self"), true},
		{plain("self", "x"), true},
		{[]api.Param{param(api.ParamPlain, "self", number(1))}, true},
		{[]api.Param{param(api.ParamPlain, "x"), star, only}, true},
		{nil, false},
		{[]api.Param{star}, false},
		{[]api.Param{star, only}, false},
		{[]api.Param{bare, only}, false},
		{[]api.Param{param(api.ParamPairs, "p")}, false},
	} {
		inDef, inFn := block(class("c", nil, def("f", c.params, expression(super)))), block(class("c", nil, expression(fn(c.params, super))))
		if c.permitted {
			expectValid(t, "super in a def", inDef)
			expectValid(t, "super in a fn", inFn)
		} else {
			expectFault(t, "super in a def", inDef, fault(api.ErrState, 3))
			expectFault(t, "super in a fn", inFn, fault(api.ErrState, 3))
		}
		expectFault(t, "super outside of a class", block(def("f", c.params, expression(super))), fault(api.ErrState, len(flatten(inDef))-2))
	}
}

// R8.2: the example of the document, and contexts that are easily mistaken.
func TestStates(t *testing.T) {
	a, super, yield := name("a"), expr(api.ExprSuper), expr(api.ExprYield)
	leave := stmt(api.StmtBreak)
	expectFault(t, "break", block(leave), fault(api.ErrState, 0))
	expectFault(t, "break in Else", block(orElse(with(stmt(api.StmtWhile, a), pass()), leave)), fault(api.ErrState, 3))
	expectValid(t, "break in Else in a loop", block(with(stmt(api.StmtWhile, a), orElse(with(stmt(api.StmtWhile, a), pass()), leave))))
	expectFault(t, "break in Else in a handler in a loop", block(with(stmt(api.StmtWhile, a), try(1, handler("", list(a), orElse(with(stmt(api.StmtWhile, a), pass()), leave))))), fault(api.ErrState, 7))
	expectValid(t, "break in a loop in a handler", block(try(1, handler("", list(a), with(stmt(api.StmtWhile, a), leave)))))
	expectValid(t, "break beside handlers", block(with(stmt(api.StmtWhile, a), finally(orElse(with(try(1, handler("", list(a), pass())), leave), leave), leave))))
	expectFault(t, "return in a handler", block(def("f", nil, try(1, handler("", list(a), stmt(api.StmtReturn))))), fault(api.ErrState, 3))
	expectValid(t, "return in a def in a handler", block(try(1, handler("", list(a), def("f", nil, stmt(api.StmtReturn))))))
	expectFault(t, "return in a class in a def", block(def("f", nil, class("c", nil, stmt(api.StmtReturn)))), fault(api.ErrState, 2))
	expectValid(t, "outer in a handler", block(def("f", nil, try(1, handler("", list(a), declare(api.StmtOuter, "x"))))))
	expectFault(t, "outer in a class", block(def("f", nil, class("c", nil, declare(api.StmtOuter, "x")))), fault(api.ErrState, 2))
	expectFault(t, "yield in an async def", block(async(def("f", nil, expression(yield)))), fault(api.ErrState, 2))
	expectValid(t, "yield in a fn in an async def", block(async(def("f", nil, expression(fn(nil, yield))))))
	expectFault(t, "yield in a comprehension in a fn", block(expression(fn(nil, comprehension(api.ExprList, yield, loop(a, a))))), fault(api.ErrState, 3))
	expectValid(t, "yield in the first iterable", block(expression(fn(nil, comprehension(api.ExprList, a, loop(a, yield))))))
	expectFault(t, "yield in the first target", block(expression(fn(nil, comprehension(api.ExprList, a, loop(attr(yield, "n"), a))))), fault(api.ErrState, 5))
	expectFault(t, "yield in a default", block(def("f", []api.Param{param(api.ParamPlain, "p", yield)}, pass())), fault(api.ErrState, 1))
	expectValid(t, "yield in a default in a def", block(def("g", nil, def("f", []api.Param{param(api.ParamPlain, "p", yield)}, pass()))))
	expectFault(t, "await in a fn", block(async(def("f", nil, expression(fn(nil, expr(api.ExprAwait, a)))))), fault(api.ErrState, 3))
	expectFault(t, "super in a def in a method", block(class("c", nil, def("f", plain("self"), def("g", plain("self"), expression(super))))), fault(api.ErrState, 4))
	expectFault(t, "super in a class in a method", block(class("c", nil, def("f", plain("self"), class("d", nil, expression(super))))), fault(api.ErrState, 4))
	expectFault(t, "super in a comprehension", block(class("c", nil, def("f", plain("self"), expression(comprehension(api.ExprList, super, loop(a, a)))))), fault(api.ErrState, 4))
	expectValid(t, "super in a method in an if", block(class("c", nil, with(stmt(api.StmtIf, a), def("f", plain("self"), expression(super))))))
	expectFault(t, "super in a decorator", block(class("c", nil, decorated(def("f", plain("self"), pass()), super))), fault(api.ErrState, 2))
	expectFault(t, "super in a fn in a comprehension", block(class("c", nil, expression(comprehension(api.ExprList, fn(plain("self"), super), loop(a, a))))), fault(api.ErrState, 4))
	expectValid(t, "super in a fn in the first iterable", block(class("c", nil, expression(comprehension(api.ExprList, a, loop(a, fn(plain("self"), super)))))))
	expectFault(t, "super in a fn in a field outside of a class", block(expression(expr(api.ExprFormat, field(0, "", fn(plain("self"), super))))), fault(api.ErrState, 4))
	expectValid(t, "super in a fn in a field", block(class("c", nil, expression(expr(api.ExprFormat, field(0, "", fn(plain("self"), super)))))))
}
