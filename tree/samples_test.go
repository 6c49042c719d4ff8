package tree_test

import (
	"brindlewood/api"
)

// sampleExpr is an expression of a kind that is valid at every place where the kind may stand, if its context permits it.
func sampleExpr(kind int) api.Expr {
	a, b := name("a"), name("b")
	switch kind {
	case api.ExprConst:
		return text("t")
	case api.ExprName:
		return a
	case api.ExprPair, api.ExprAnd, api.ExprOr, api.ExprIndex:
		return expr(kind, a, b)
	case api.ExprNamed:
		return named("n", a)
	case api.ExprUnary:
		return operation(kind, api.OpNeg, number(1))
	case api.ExprBinary:
		return operation(kind, api.OpAdd, a, b)
	case api.ExprCompare:
		return compare([]int{api.CmpLess}, a, b)
	case api.ExprIf:
		return expr(kind, a, b, name("c"))
	case api.ExprAttr:
		return attr(a, "n")
	case api.ExprSlice:
		return expr(kind, a, none(), none())
	case api.ExprNone:
		return none()
	case api.ExprFn:
		return fn(plain("p"), a)
	case api.ExprFormat:
		return expr(kind, text("t"), field(0, "", a))
	case api.ExprField:
		return field(0, "", a)
	case api.ExprLoops:
		return comprehension(api.ExprList, a, loop(b, name("c")))
	case api.ExprDict:
		return expr(kind, expr(api.ExprPair, a, b))
	case api.ExprSuper:
		return expr(kind)
	}
	return expr(kind, a)
}

// sampleStmt is a statement of a kind that is valid in every block, if its context permits it.
func sampleStmt(kind int) api.Stmt {
	a, b := name("a"), name("b")
	switch kind {
	case api.StmtExpr, api.StmtDel, api.StmtReturn, api.StmtRaise, api.StmtAssert:
		return stmt(kind, a)
	case api.StmtAssign:
		return stmt(kind, a, b)
	case api.StmtAugment:
		return augment(api.OpAdd, a, b)
	case api.StmtGlobal, api.StmtOuter:
		return declare(kind, "n")
	case api.StmtImport:
		return load(kind, "m")
	case api.StmtFrom:
		return load(kind, "m", "n", "n")
	case api.StmtIf, api.StmtWhile:
		return with(stmt(kind, a), pass())
	case api.StmtFor:
		return with(stmt(kind, a, b), pass())
	case api.StmtTry:
		return try(0, handler("", list(a), pass()))
	case api.StmtWith:
		return using(item(a))
	case api.StmtDef:
		return def("d", nil, pass())
	case api.StmtClass:
		return class("c", nil, pass())
	case api.StmtMatch:
		return match(option(pattern(api.PatWild), nil, pass()))
	}
	return stmt(kind)
}

// samplePattern is a pattern of a kind that is valid wherever the kind may stand.
func samplePattern(kind int) api.Pattern {
	wild := pattern(api.PatWild)
	switch kind {
	case api.PatCapture:
		return capture(kind, "n")
	case api.PatValue:
		return constantPattern(number(1))
	case api.PatMapping:
		return mapping("", list(number(1)), wild)
	case api.PatClass:
		return classPattern(name("c"), nil, wild)
	case api.PatOr:
		return pattern(kind, wild, wild)
	case api.PatAs:
		return capture(kind, "n", wild)
	}
	return pattern(kind)
}

// samples are trees without faults, in which everything occurs that may occur.
func samples() [][]api.Stmt {
	var l [][]api.Stmt
	for kind := api.StmtExpr; kind <= api.StmtMatch; kind++ {
		s := sampleStmt(kind)
		l = append(l, block(def("f", nil, with(stmt(api.StmtWhile, name("a")), s))))
	}
	for kind := api.ExprConst; kind <= api.ExprAwait; kind++ {
		l = append(l, holding(sampleExpr(kind)))
	}
	for kind := api.PatWild; kind <= api.PatAs; kind++ {
		l = append(l, matching(pattern(api.PatSequence, samplePattern(kind))))
	}
	return append(append(append(l, expressionSamples()...), statementSamples()...), patternSamples()...)
}

// holding is a tree in which an expression stands at a place and in a context that permit it.
func holding(e api.Expr) []api.Stmt {
	switch e.Kind {
	case api.ExprPair, api.ExprPairs:
		e = expr(api.ExprDict, e)
	case api.ExprStar, api.ExprNamed:
		e = expr(api.ExprCall, name("f"), e)
	case api.ExprSlice:
		e = expr(api.ExprIndex, name("o"), e)
	case api.ExprNone:
		e = expr(api.ExprIndex, name("o"), expr(api.ExprSlice, e, e, e))
	case api.ExprField:
		e = expr(api.ExprFormat, e)
	case api.ExprAwait:
		return block(async(def("f", nil, expression(e))))
	case api.ExprYield, api.ExprFrom:
		return block(def("f", nil, expression(e)))
	case api.ExprSuper:
		return block(class("c", nil, def("f", plain("self"), expression(e))))
	}
	return block(expression(e))
}

func expressionSamples() [][]api.Stmt {
	a, b, c := name("a"), name("b"), name("c")
	params := []api.Param{param(api.ParamPlain, "p"), param(api.ParamPlain, "q", a), param(api.ParamStar, ""), param(api.ParamOnly, "r", b), param(api.ParamOnly, "s"), param(api.ParamPairs, "t")}
	star, pairs, pair := expr(api.ExprStar, a), expr(api.ExprPairs, a), expr(api.ExprPair, a, b)
	var l [][]api.Stmt
	for _, e := range list(
		literalOf(api.Value{}), literalOf(api.Value{Kind: api.KindBool}), literalOf(api.Value{Kind: api.KindBool, Ref: 1}), number(0), number(7), ratio(1), text(""), text("a\n\"'#\\é"), byteString("\x00\xff"),
		expr(api.ExprTuple), expr(api.ExprTuple, star, a, star), expr(api.ExprList), expr(api.ExprList, star, star), expr(api.ExprSet, star, b), expr(api.ExprDict), expr(api.ExprDict, pair, pairs, pair),
		operation(api.ExprUnary, api.OpNot, a), operation(api.ExprBinary, api.OpXor, a, b), compare([]int{api.CmpIsNot, api.CmpIn}, a, b, c),
		expr(api.ExprIndex, a, expr(api.ExprSlice, none(), b, none())), expr(api.ExprCall, a), expr(api.ExprCall, a, b, star, c, named("n", a), pairs, named("m", b)),
		fn(nil, a), fn(params, a), expr(api.ExprFormat), expr(api.ExprFormat, text("x"), field('r', ">5", a), field('s', "", b), text("#")),
		expr(api.ExprFormat, field(0, "", expr(api.ExprIndex, a, text("k")))), expr(api.ExprFormat, field(0, "", fn([]api.Param{param(api.ParamPlain, "p", text("k"))}, byteString("z")))),
		comprehension(api.ExprTuple, a, loop(b, c)), comprehension(api.ExprSet, a, loop(b, c, a, b), loop(expr(api.ExprTuple, a, star), c), loop(attr(a, "n"), b, c)), comprehension(api.ExprDict, pair, loop(b, c)),
		fn(nil, expr(api.ExprYield)), fn(nil, expr(api.ExprYield, a)), fn(nil, expr(api.ExprFrom, comprehension(api.ExprList, a, loop(b, c)))),
	) {
		l = append(l, block(expression(e)))
	}
	super := expr(api.ExprSuper)
	return append(l,
		block(async(def("f", nil, stmt(api.StmtAssign, a, comprehension(api.ExprList, a, loop(b, expr(api.ExprAwait, c))))))),
		block(def("f", nil, stmt(api.StmtAssign, a, comprehension(api.ExprList, a, loop(b, expr(api.ExprYield)))))),
		block(class("c", nil, stmt(api.StmtAssign, a, fn(plain("self"), attr(super, "x"))))),
		block(class("c", nil, async(def("f", params, expression(expr(api.ExprCall, super)))))),
	)
}

func statementSamples() [][]api.Stmt {
	a, b, c := name("a"), name("b"), name("c")
	star := expr(api.ExprStar, a)
	leave, again := stmt(api.StmtBreak), stmt(api.StmtContinue)
	nested := expr(api.ExprTuple, a, expr(api.ExprStar, expr(api.ExprList, b, star)), attr(c, "n"), expr(api.ExprIndex, a, b), expr(api.ExprTuple))
	params := []api.Param{param(api.ParamPlain, "p"), param(api.ParamPlain, "q", a), param(api.ParamStar, "r"), param(api.ParamOnly, "s", b), param(api.ParamPairs, "t")}
	return [][]api.Stmt{
		nil,
		block(pass(), pass()),
		block(stmt(api.StmtAssign, nested, expr(api.ExprList, a), attr(a, "n"), expr(api.ExprIndex, a, expr(api.ExprSlice, none(), none(), none())), expr(api.ExprTuple, star, star))),
		block(augment(api.OpAdd, attr(a, "n"), b), augment(api.OpXor, expr(api.ExprIndex, a, b), c)),
		block(stmt(api.StmtDel, a, attr(a, "n"), expr(api.ExprIndex, a, b))),
		block(def("f", nil, stmt(api.StmtReturn), declare(api.StmtOuter, "x", "y"))),
		block(stmt(api.StmtRaise), stmt(api.StmtRaise, a, b), stmt(api.StmtAssert, a, b)),
		block(declare(api.StmtGlobal, "x", "y"), load(api.StmtImport, "m.n", "o"), load(api.StmtFrom, "m.n.o", "p", "q", "p", "q")),
		block(orElse(with(stmt(api.StmtIf, a), pass()), orElse(with(stmt(api.StmtIf, b), pass()), pass()))),
		block(orElse(with(stmt(api.StmtWhile, a), leave, with(stmt(api.StmtFor, nested, b), again), orElse(with(stmt(api.StmtFor, a, b), pass()), leave)), pass())),
		block(with(stmt(api.StmtFor, a, b), try(1, handler("", list(a), with(stmt(api.StmtWhile, a), leave, again))), finally(try(0), again))),
		block(finally(orElse(try(0, handler("e", list(a), pass()), handler("", list(b), pass()), handler("", nil, pass())), pass()), pass())),
		block(try(1, handler("e", list(a), def("f", nil, stmt(api.StmtReturn))), handler("", list(b), pass()))),
		block(finally(try(0), pass())),
		block(using(item(a, nested), item(b), item(c, attr(a, "n")))),
		block(decorated(def("f", params, pass(), def("g", nil, stmt(api.StmtReturn, a))), a, b)),
		block(decorated(class("c", list(a, b, named("n", c)), pass(), class("d", nil, pass())), a)),
		block(match(option(pattern(api.PatWild), list(a), pass(), pass()), option(capture(api.PatCapture, "n"), nil, pass()))),
	}
}

func patternSamples() [][]api.Stmt {
	dotted := attr(attr(name("a"), "b"), "c")
	one, wild, star := number(1), pattern(api.PatWild), capture(api.PatStar, "")
	var l [][]api.Stmt
	for _, p := range []api.Pattern{
		constantPattern(literalOf(api.Value{})), constantPattern(operation(api.ExprUnary, api.OpNeg, ratio(0))), constantPattern(attr(name("a"), "b")), constantPattern(dotted),
		pattern(api.PatSequence), pattern(api.PatSequence, wild, star, wild), pattern(api.PatSequence, capture(api.PatStar, "n")),
		mapping("", nil), mapping("n", list(one, operation(api.ExprUnary, api.OpNeg, one), dotted), wild, wild, wild),
		classPattern(name("c"), nil), classPattern(dotted, []string{"x", "_"}, wild, wild, wild), classPattern(attr(name("a"), "b"), []string{"x"}, wild),
		pattern(api.PatOr, wild, wild, pattern(api.PatOr, wild, wild)), capture(api.PatAs, "n", capture(api.PatAs, "m", wild)),
		pattern(api.PatSequence, pattern(api.PatSequence, star), star, pattern(api.PatSequence, wild)),
	} {
		l = append(l, matching(p))
	}
	return l
}
