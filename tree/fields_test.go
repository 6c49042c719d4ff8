package tree_test

import (
	"fmt"
	"reflect"
	"slices"
	"strings"
	"testing"

	"brindlewood/api"
)

// many are as many names as are asked for.
func many(n int) []api.Expr {
	var l []api.Expr
	for range n {
		l = append(l, name("a"))
	}
	return l
}

// R8.3: Exprs of each kind of statement, from none to four.
func TestStmtExprs(t *testing.T) {
	permitted := map[int]string{
		api.StmtExpr: "1", api.StmtAssign: "234", api.StmtAugment: "2", api.StmtDel: "1234", api.StmtPass: "0", api.StmtBreak: "0", api.StmtContinue: "0", api.StmtReturn: "01", api.StmtRaise: "012", api.StmtAssert: "12",
		api.StmtGlobal: "0", api.StmtOuter: "0", api.StmtImport: "0", api.StmtFrom: "0", api.StmtIf: "1", api.StmtWhile: "1", api.StmtFor: "2", api.StmtTry: "0", api.StmtWith: "0", api.StmtDef: "01234", api.StmtClass: "01234", api.StmtMatch: "1",
	}
	for kind := api.StmtExpr; kind <= api.StmtMatch; kind++ {
		for n := range 5 {
			s := sampleStmt(kind)
			s.Exprs = many(n)
			expectForm(t, fmt.Sprintf("statement %d with %d expressions", kind, n), inLoop(s), 3, strings.Contains(permitted[kind], fmt.Sprint(n)))
		}
	}
	expectValid(t, "1000 targets", block(stmt(api.StmtAssign, many(1000)...), stmt(api.StmtDel, many(1000)...)))
}

// inLoop is a tree with a statement, which has the number 3 and may be of any kind.
func inLoop(s api.Stmt) []api.Stmt {
	return block(def("f", nil, with(stmt(api.StmtWhile, name("a")), s)))
}

// expectForm checks that a tree has no fault, or ErrForm at a node.
func expectForm(t *testing.T, what string, l []api.Stmt, at int, permitted bool) {
	t.Helper()
	if permitted {
		expectValid(t, what, l)
	} else {
		expectFault(t, what, l, fault(api.ErrForm, at))
	}
}

// R8.3: Names of each kind of statement, from none to five.
func TestStmtNames(t *testing.T) {
	permitted := map[int]string{api.StmtGlobal: "12345", api.StmtOuter: "12345", api.StmtImport: "01", api.StmtFrom: "24"}
	for kind := api.StmtExpr; kind <= api.StmtMatch; kind++ {
		counts, hasNames := permitted[kind]
		if !hasNames {
			counts = "0"
		}
		for n := range 6 {
			s := sampleStmt(kind)
			s.Names = strings.Split("a b c d e", " ")[:n]
			expectForm(t, fmt.Sprintf("statement %d with %d names", kind, n), inLoop(s), 3, strings.Contains(counts, fmt.Sprint(n)))
		}
	}
}

// setField is a copy of a struct in which a field has another value.
func setField[T any](v T, field string, value any) T {
	c := clone(v)
	reflect.ValueOf(&c).Elem().FieldByName(field).Set(reflect.ValueOf(value))
	return c
}

// R8.3: fields that a kind of statement does not use, one after another.
func TestStmtUnused(t *testing.T) {
	a := name("a")
	used := map[string][]int{
		"Name":     {api.StmtImport, api.StmtFrom, api.StmtDef, api.StmtClass},
		"Op":       {api.StmtAugment, api.StmtTry},
		"Args":     {api.StmtClass},
		"Params":   {api.StmtDef},
		"Body":     {api.StmtIf, api.StmtWhile, api.StmtFor, api.StmtTry, api.StmtWith, api.StmtDef, api.StmtClass},
		"Else":     {api.StmtIf, api.StmtWhile, api.StmtFor, api.StmtTry},
		"Final":    {api.StmtTry},
		"Handlers": {api.StmtTry},
		"Items":    {api.StmtWith},
		"Cases":    {api.StmtMatch},
		"Async":    {api.StmtDef},
	}
	values := map[string]any{
		"Name": "n", "Op": 1, "Args": list(a), "Params": plain("p"), "Body": block(pass()), "Else": block(pass()), "Final": block(pass()),
		"Handlers": []api.Handler{handler("", list(a), pass())}, "Items": []api.Item{item(a)}, "Cases": []api.Case{option(pattern(api.PatWild), nil, pass())}, "Async": true,
	}
	for fieldName, kinds := range used {
		for kind := api.StmtExpr; kind <= api.StmtMatch; kind++ {
			isUsed := slices.Contains(kinds, kind)
			s := setField(sampleStmt(kind), fieldName, values[fieldName])
			if fieldName == "Op" && kind == api.StmtAugment {
				s.Op = api.OpMul
			}
			expectForm(t, fmt.Sprintf("%s of a statement %d", fieldName, kind), inLoop(s), 3, isUsed)
		}
	}
}

// R8.3: what must not be empty.
func TestStmtEmpty(t *testing.T) {
	for kind := api.StmtIf; kind < api.StmtMatch; kind++ {
		s := sampleStmt(kind)
		s.Body = nil
		expectForm(t, fmt.Sprintf("statement %d without a body", kind), inLoop(s), 3, false)
		s.Body = []api.Stmt{}
		expectForm(t, fmt.Sprintf("statement %d with an empty body", kind), inLoop(s), 3, false)
	}
	expectForm(t, "with without items", block(using()), 0, false)
	expectForm(t, "match without cases", block(match()), 0, false)
	expectFault(t, "all fields empty", make([]api.Stmt, 1), fault(api.ErrKind, 0))
	for _, kind := range []int{api.StmtPass, api.StmtRaise} {
		empty := api.Stmt{Kind: kind, Line: 1, Names: []string{}, Exprs: list(), Args: list(), Params: []api.Param{}, Body: block(), Else: block(), Final: block(), Handlers: []api.Handler{}, Items: []api.Item{}, Cases: []api.Case{}}
		expectValid(t, "empty lists that are not nil", block(empty))
	}
}

// R8.3: Op of StmtAugment and StmtTry.
func TestStmtOps(t *testing.T) {
	a := name("a")
	for op := -2; op < 300; op++ {
		expectForm(t, fmt.Sprint("augment ", op), block(augment(op, a, a)), 0, op >= api.OpAdd && op <= api.OpXor)
		expectForm(t, fmt.Sprint("try ", op), block(try(op, handler("", list(a), pass()))), 0, op == 0 || op == 1)
		expectForm(t, fmt.Sprint("pass ", op), block(api.Stmt{Kind: api.StmtPass, Line: 1, Op: op}), 0, op == 0)
	}
	for _, op := range []int{minInt, maxInt} {
		expectForm(t, "augment", block(augment(op, a, a)), 0, false)
		expectForm(t, "try", block(try(op, handler("", list(a), pass()))), 0, false)
	}
}

// R8.3: arguments of a class.
func TestClassArguments(t *testing.T) {
	a := name("a")
	for _, e := range list(expr(api.ExprStar, a), expr(api.ExprPairs, a)) {
		expectForm(t, "class", block(class("c", list(e), pass())), 0, false)
		expectForm(t, "class", block(class("c", list(a, e), pass())), 0, false)
		expectForm(t, "class", block(class("c", list(e, a), pass())), 0, false)
		expectForm(t, "class", block(class("c", list(a, named("n", a), e), pass())), 0, false)
		expectValid(t, "class", block(class("c", list(a, expr(api.ExprCall, a, e)), pass())))
	}
	expectValid(t, "class", block(class("c", nil, pass()), class("c", list(a), pass()), class("c", list(named("n", a)), pass()), class("c", append(many(20), named("n", a), named("m", a)), pass())))
}

// R8.3: items and cases.
func TestItemsAndCases(t *testing.T) {
	a, wild := name("a"), pattern(api.PatWild)
	for n := range 4 {
		expectForm(t, "targets", block(using(item(a, many(n)...))), 0, n <= 1)
		expectForm(t, "targets", block(using(item(a), item(a, a), item(a, many(n)...))), 0, n <= 1)
		expectForm(t, "guards", block(match(option(wild, many(n), pass()))), 0, n <= 1)
		expectForm(t, "guards", block(match(option(wild, nil, pass()), option(wild, many(n), pass()))), 0, n <= 1)
	}
	expectForm(t, "body", block(match(option(wild, nil))), 0, false)
	expectForm(t, "body", block(match(option(wild, nil, pass()), option(wild, list(a)))), 0, false)
	expectValid(t, "body", block(match(option(wild, nil, pass(), pass(), pass()))))
}

// R8.3: the combinations of what a StmtTry can have.
func TestTry(t *testing.T) {
	a := name("a")
	caught, bound, bare := handler("", list(a), pass()), handler("e", list(a), pass()), handler("", nil, pass())
	for _, handlers := range [][]api.Handler{nil, {caught}, {bound}, {bare}, {caught, bound}, {bound, bare}, {bare, caught}, {bare, bare}, {caught, bare, bound}, {caught, bound, caught, bare}} {
		for op := range 3 {
			for others := range 4 {
				s := try(op, handlers...)
				if others&1 > 0 {
					s.Else = block(pass())
				}
				if others&2 > 0 {
					s.Final = block(pass())
				}
				permitted := op <= 1
				if len(handlers) == 0 {
					permitted = op == 0 && others == 2
				}
				for i, h := range handlers {
					if len(h.Exprs) == 0 && (i < len(handlers)-1 || op == 1) {
						permitted = false
					}
				}
				expectForm(t, fmt.Sprintf("%d handlers, op %d, others %d", len(handlers), op, others), block(s), 0, permitted)
			}
		}
	}
	for what, h := range map[string]api.Handler{
		"a name without a class": handler("e", nil, pass()),
		"two classes":            handler("", list(a, a), pass()),
		"two classes and a name": handler("e", list(a, a), pass()),
		"no body":                handler("", list(a)),
		"nothing":                {},
		"a line alone":           {Line: 1},
	} {
		expectForm(t, what, block(try(0, h)), 0, false)
		expectForm(t, what, block(try(0, caught, h)), 0, false)
		expectForm(t, what, block(try(0, h, bare)), 0, false)
		expectForm(t, what, block(finally(try(1, caught, h), pass())), 0, false)
	}
	expectValid(t, "handlers", block(try(1, caught, bound, caught), try(0, bound, bound, bare)))
}

// R8.3: lines of handlers and cases.
func TestInnerLines(t *testing.T) {
	a := name("a")
	for _, line := range []int{minInt, -1, 0, 1, 2, api.MaxSource - 1, api.MaxSource, api.MaxSource + 1, maxInt} {
		h, c := handler("", list(a), pass()), option(pattern(api.PatWild), nil, pass())
		h.Line, c.Line = line, line
		permitted := line >= 1 && line <= api.MaxSource
		expectForm(t, fmt.Sprint("handler at ", line), block(try(0, h)), 0, permitted)
		expectForm(t, fmt.Sprint("handler at ", line), block(try(1, handler("", list(a), pass()), h)), 0, permitted)
		expectForm(t, fmt.Sprint("case at ", line), block(match(c)), 0, permitted)
		expectForm(t, fmt.Sprint("case at ", line), block(match(option(pattern(api.PatWild), nil, pass()), c)), 0, permitted)
	}
}

// holderOf is a tree with an expression of a kind, with its number.
func holderOf(e api.Expr) ([]api.Stmt, int) {
	l := holding(e)
	for i, n := range flatten(l) {
		if n.expr != nil && n.expr.Kind == e.Kind {
			return l, i
		}
	}
	return l, -1
}

// R8.3: Args of each kind of expression, from none to four.
func TestExprArgs(t *testing.T) {
	permitted := map[int]string{
		api.ExprConst: "0", api.ExprName: "0", api.ExprSuper: "0", api.ExprNone: "0", api.ExprTuple: "01234", api.ExprList: "01234", api.ExprSet: "1234", api.ExprCall: "1234",
		api.ExprPair: "2", api.ExprBinary: "2", api.ExprAnd: "2", api.ExprOr: "2", api.ExprIndex: "2", api.ExprIf: "3", api.ExprSlice: "3", api.ExprYield: "01",
		api.ExprPairs: "1", api.ExprStar: "1", api.ExprNamed: "1", api.ExprUnary: "1", api.ExprAttr: "1", api.ExprFn: "1", api.ExprField: "1", api.ExprLoops: "1", api.ExprFrom: "1", api.ExprAwait: "1",
	}
	for kind, counts := range permitted {
		for n := range 5 {
			e := sampleExpr(kind)
			e.Args = many(n)
			l, at := holderOf(e)
			expectForm(t, fmt.Sprintf("expression %d with %d arguments", kind, n), l, at, strings.Contains(counts, fmt.Sprint(n)))
		}
	}
	for n := range 5 {
		var items, segments []api.Expr
		for range n {
			items, segments = append(items, expr(api.ExprPair, many(2)...)), append(segments, field(0, "", name("a")))
		}
		expectValid(t, "dict", block(expression(expr(api.ExprDict, items...))))
		expectValid(t, "format", block(expression(expr(api.ExprFormat, segments...))))
	}
}

// R8.3: fields that a kind of expression does not use.
func TestExprUnused(t *testing.T) {
	a := name("a")
	used := map[string][]int{
		"Name":   {api.ExprName, api.ExprNamed, api.ExprAttr, api.ExprField},
		"Op":     {api.ExprUnary, api.ExprBinary, api.ExprField, api.ExprLoops},
		"Ops":    {api.ExprCompare},
		"Params": {api.ExprFn},
		"Loops":  {api.ExprLoops},
		"Const":  {api.ExprConst},
	}
	values := map[string][]any{
		"Name":   {"n"},
		"Op":     {1, -1},
		"Ops":    {[]int{api.CmpLess}},
		"Params": {plain("p")},
		"Loops":  {[]api.Loop{loop(a, a)}},
		"Const": {
			api.Value{Kind: api.KindInt}, api.Value{Kind: -1}, api.Value{Ref: 1}, api.Value{Text: "t"}, api.Value{Num: api.Int{Neg: true}}, api.Value{Num: api.Int{Limbs: []uint32{1}}},
			api.Value{Num: api.Int{Limbs: []uint32{0}}}, api.Value{Den: api.Int{Neg: true}}, api.Value{Den: api.Int{Limbs: []uint32{1}}}, api.Value{Kind: api.KindUnbound},
		},
	}
	for fieldName, kinds := range used {
		for kind := api.ExprConst; kind <= api.ExprAwait; kind++ {
			if slices.Contains(kinds, kind) {
				continue
			}
			for _, v := range values[fieldName] {
				l, at := holderOf(setField(sampleExpr(kind), fieldName, v))
				expectForm(t, fmt.Sprintf("%s of an expression %d", fieldName, kind), l, at, false)
			}
		}
	}
	empty := api.Expr{Kind: api.ExprName, Line: 1, Name: "a", Ops: []int{}, Args: list(), Loops: []api.Loop{}, Params: []api.Param{}, Const: api.Value{Num: api.Int{Limbs: []uint32{}}, Den: api.Int{Limbs: []uint32{}}}}
	expectValid(t, "empty lists that are not nil", block(expression(empty)))
}

// R8.3: Op and Ops of expressions.
func TestExprOps(t *testing.T) {
	a := name("a")
	for _, op := range append(span(-2, 300), minInt, maxInt) {
		what := fmt.Sprint("op ", op)
		expectForm(t, what, block(expression(operation(api.ExprUnary, op, a))), 1, op >= api.OpNeg && op <= api.OpNot)
		expectForm(t, what, block(expression(operation(api.ExprBinary, op, a, a))), 1, op >= api.OpAdd && op <= api.OpXor)
		expectForm(t, what, block(expression(expr(api.ExprFormat, field(op, "", a)))), 2, op == 0 || op == 'r' || op == 's')
		expectForm(t, what, block(expression(comprehension(op, a, loop(a, a)))), 1, op >= api.ExprTuple && op <= api.ExprSet)
		expectForm(t, what, block(expression(comprehension(op, expr(api.ExprPair, a, a), loop(a, a)))), 1, op == api.ExprDict)
		isComparison := op >= api.CmpLess && op <= api.CmpIsNot
		expectForm(t, what, block(expression(compare([]int{op}, a, a))), 1, isComparison)
		expectForm(t, what, block(expression(compare([]int{api.CmpIn, op, api.CmpIn}, a, a, a, a))), 1, isComparison)
		expectForm(t, what, block(expression(compare([]int{api.CmpIn, op}, a, a, a))), 1, isComparison)
	}
	for args := range 6 {
		for ops := range 6 {
			e := compare(make([]int, ops), many(args)...)
			for i := range ops {
				e.Ops[i] = api.CmpLess + i
			}
			expectForm(t, fmt.Sprintf("%d comparisons of %d", ops, args), block(expression(e)), 1, args >= 2 && ops == args-1)
		}
	}
}

// span are the numbers from one to ahead of another one.
func span(from, to int) []int {
	var l []int
	for n := from; n < to; n++ {
		l = append(l, n)
	}
	return l
}

// R8.3: loops of a comprehension, and parameters of a fn.
func TestLoopsAndParams(t *testing.T) {
	a := name("a")
	for n := range 4 {
		var loops []api.Loop
		for range n {
			loops = append(loops, loop(a, a, many(n)...))
		}
		expectForm(t, "loops", block(expression(comprehension(api.ExprSet, a, loops...))), 1, n >= 1)
	}
	expectFault(t, "a loop without anything", block(expression(comprehension(api.ExprSet, a, api.Loop{}))), fault(api.ErrKind, 3))
	expectFault(t, "a loop without an iterable", block(expression(comprehension(api.ExprSet, a, api.Loop{Target: a}))), fault(api.ErrKind, 4))
	expectValid(t, "fn", block(expression(fn(nil, a)), expression(fn(plain("a", "b"), a))))
}

// R8.3: stars in targets.
func TestStarsInTargets(t *testing.T) {
	a, star := name("a"), expr(api.ExprStar, name("a"))
	for _, kind := range []int{api.ExprTuple, api.ExprList} {
		one, two := expr(kind, a, star, a), expr(kind, star, a, star)
		around := func(e api.Expr) []api.Stmt { return block(stmt(api.StmtAssign, a, expr(kind, a, e), a)) }
		expectForm(t, "one star", block(stmt(api.StmtAssign, one, a)), 1, true)
		expectForm(t, "two stars", block(stmt(api.StmtAssign, two, a)), 1, false)
		expectForm(t, "one in another one", around(one), 2, true)
		expectForm(t, "two in another one", around(two), 4, false)
		expectForm(t, "one behind a star", around(expr(api.ExprStar, one)), 2, true)
		expectForm(t, "two behind a star", around(expr(api.ExprStar, two)), 5, false)
		expectForm(t, "one in each of two", around(expr(kind, one, one)), 2, true)
		expectForm(t, "two in an item", block(using(item(a, two))), 2, false)
		expectForm(t, "two in a for", block(with(stmt(api.StmtFor, two, a), pass())), 1, false)
		expectForm(t, "two in a loop", block(expression(comprehension(api.ExprList, a, loop(two, a)))), 3, false)
		expectForm(t, "two as a value", block(stmt(api.StmtAssign, a, two)), 1, true)
		expectForm(t, "two in a subscript", block(stmt(api.StmtAssign, expr(api.ExprIndex, a, two), a)), 1, true)
		expectForm(t, "two in an object", block(stmt(api.StmtAssign, attr(two, "n"), a)), 1, true)
		expectForm(t, "two in a display in a subscript", block(stmt(api.StmtAssign, expr(api.ExprTuple, expr(api.ExprIndex, a, two)), a)), 1, true)
		expectForm(t, "three", block(stmt(api.StmtAssign, expr(kind, star, star, star), a)), 1, false)
		expectFault(t, "two in an index", block(stmt(api.StmtAssign, expr(kind, expr(api.ExprIndex, star, star)), a)), fault(api.ErrKind, 3))
	}
}

// R8.3: an ExprUnary as a constant.
func TestNegatedConstants(t *testing.T) {
	for op := -1; op <= api.OpXor+1; op++ {
		for what, c := range map[string]struct {
			e        api.Expr
			isNumber bool
		}{
			"integer": {number(1), true}, "zero": {number(0), true}, "ratio": {ratio(3), true},
			"text": {text("1"), false}, "bytes": {byteString("1"), false}, "nil": {literalOf(api.Value{}), false}, "true": {literalOf(api.Value{Kind: api.KindBool, Ref: 1}), false},
			"name": {name("a"), false}, "attribute": {attr(name("a"), "n"), false}, "negated": {operation(api.ExprUnary, api.OpNeg, number(1)), false}, "sum": {operation(api.ExprBinary, api.OpAdd, number(1), number(1)), false},
		} {
			e := operation(api.ExprUnary, op, c.e)
			permitted := op == api.OpNeg && c.isNumber
			expectForm(t, what, matching(constantPattern(e)), 3, permitted)
			expectForm(t, what, matching(mapping("", list(e), pattern(api.PatWild))), 3, permitted)
			expectForm(t, what, block(expression(e)), 1, op >= api.OpNeg && op <= api.OpNot)
		}
	}
	expectFault(t, "a constant without a literal", matching(constantPattern(operation(api.ExprUnary, api.OpNeg, literalOf(api.Value{Kind: api.KindInt, Num: api.Int{Neg: true, Limbs: []uint32{1}}})))), fault(api.ErrForm, 4))
	expectFault(t, "no argument", matching(constantPattern(operation(api.ExprUnary, api.OpNeg))), fault(api.ErrForm, 3))
}

// R8.3: the constant of an ExprConst has a literal.
func TestConstants(t *testing.T) {
	one := api.Int{Limbs: []uint32{1}}
	for _, v := range []api.Value{
		{Kind: -1}, {Kind: api.KindRef}, {Kind: api.KindBuiltin, Text: "print"}, {Kind: api.KindPass}, {Kind: api.KindUnbound}, {Ref: 1}, {Text: "a"}, {Kind: api.KindBool, Ref: 2}, {Kind: api.KindInt, Num: api.Int{Neg: true, Limbs: []uint32{1}}}, {Kind: api.KindInt, Num: api.Int{Limbs: []uint32{1, 0}}},
		{Kind: api.KindInt, Num: one, Den: one}, {Kind: api.KindRatio, Num: one}, {Kind: api.KindRatio, Num: one, Den: one}, {Kind: api.KindRatio, Num: one, Den: api.Int{Limbs: []uint32{3}}}, {Kind: api.KindRatio, Num: api.Int{Limbs: []uint32{2}}, Den: api.Int{Limbs: []uint32{2}}},
		{Kind: api.KindText, Text: "\xff"}, {Kind: api.KindText, Text: strings.Repeat("a", api.MaxText+1)}, {Kind: api.KindBytes, Text: strings.Repeat("a", api.MaxText+1)}, {Kind: api.KindInt, Num: api.Int{Limbs: make([]uint32, 200)}},
	} {
		expectForm(t, "no literal", block(expression(literalOf(v))), 1, false)
		expectForm(t, "no literal", matching(constantPattern(literalOf(v))), 3, false)
	}
	for _, v := range []api.Value{{}, {Kind: api.KindBool}, {Kind: api.KindBool, Ref: 1}, {Kind: api.KindInt}, {Kind: api.KindInt, Num: one}, {Kind: api.KindRatio, Num: one, Den: api.Int{Limbs: []uint32{10}}}, {Kind: api.KindText}, {Kind: api.KindText, Text: strings.Repeat("a", api.MaxText)}, {Kind: api.KindBytes, Text: "\xff"}} {
		expectValid(t, "literal", block(expression(literalOf(v))))
		expectValid(t, "literal", matching(constantPattern(literalOf(v))))
	}
}

// R8.3: constants in an ExprField.
func TestConstantsInFields(t *testing.T) {
	a := name("a")
	for _, s := range []string{"", "a", "{}!:", " ", "é", "\u00a0", "a b"} {
		for _, e := range list(text(s), expr(api.ExprIndex, a, text(s)), fn(nil, text(s)), fn([]api.Param{param(api.ParamPlain, "p", text(s))}, a), comprehension(api.ExprList, a, loop(a, text(s)))) {
			expectValid(t, s, block(expression(expr(api.ExprFormat, field(0, "", e)))))
		}
	}
	for _, s := range []string{`"`, "'", "#", `\`, "\n", "\t", "\x00", "\x1f", "\x7f", "\u0080", "\u009f", "a'", "a#b"} {
		in := func(e api.Expr, at int) {
			t.Helper()
			expectForm(t, s, block(expression(expr(api.ExprFormat, text("t"), field(0, "", e)))), 4+at, false)
			expectForm(t, s+" beside a field", block(expression(expr(api.ExprTuple, expr(api.ExprFormat, field(0, "", a)), e))), 1, true)
		}
		in(text(s), 0)
		in(expr(api.ExprIndex, a, text(s)), 2)
		in(fn(nil, text(s)), 1)
		in(fn([]api.Param{param(api.ParamPlain, "p", text(s))}, a), 2)
		in(comprehension(api.ExprList, a, loop(a, text(s))), 3)
		in(comprehension(api.ExprList, a, loop(a, a, fn(nil, text(s)))), 5)
		expectForm(t, s+" as a segment", block(expression(expr(api.ExprFormat, text(s), field(0, "", a)))), 1, true)
	}
	for _, b := range []string{`"`, "'", "#", `\`, "\n", "\x80", "\xff", "é"} {
		expectForm(t, b, block(expression(expr(api.ExprFormat, field(0, "", byteString(b))))), 3, false)
		expectForm(t, b, block(expression(byteString(b))), 1, true)
	}
	for _, e := range list(number(0), ratio(3), byteString("az"), literalOf(api.Value{}), literalOf(api.Value{Kind: api.KindBool})) {
		expectValid(t, "constant", block(expression(expr(api.ExprFormat, field(0, "", e)))))
	}
}

// R8.3: segments of an ExprFormat: the fault of one that is empty or no text is at it, that of two that follow each other at the ExprFormat.
func TestSegments(t *testing.T) {
	a := field(0, "", name("a"))
	expectForm(t, "text", block(expression(expr(api.ExprFormat, text("x")))), 1, true)
	expectForm(t, "texts", block(expression(expr(api.ExprFormat, text("x"), a, text("x"), a, a, text("y")))), 1, true)
	expectForm(t, "two texts", block(expression(expr(api.ExprFormat, text("x"), text("y")))), 1, false)
	expectForm(t, "two texts at the end", block(expression(expr(api.ExprFormat, a, text("x"), a, text("x"), text("y")))), 1, false)
	expectForm(t, "two numbers", block(expression(expr(api.ExprFormat, number(1), number(1)))), 1, false)
	expectForm(t, "two empty texts", block(expression(expr(api.ExprFormat, text(""), text("")))), 1, false)
	for _, e := range list(text(""), number(1), ratio(1), byteString("x"), byteString(""), literalOf(api.Value{}), literalOf(api.Value{Kind: api.KindBool})) {
		expectForm(t, "alone", block(expression(expr(api.ExprFormat, e))), 2, false)
		expectForm(t, "behind a field", block(expression(expr(api.ExprFormat, a, e))), 4, false)
		expectForm(t, "in a field", block(expression(expr(api.ExprFormat, field(0, "", e)))), 3, true)
		expectForm(t, "elsewhere", block(expression(e)), 1, true)
	}
}

// R8.3: specifications.
func TestSpecifications(t *testing.T) {
	a := name("a")
	in := func(s string, op int) []api.Stmt { return block(expression(expr(api.ExprFormat, field(op, s, a)))) }
	for _, s := range []string{"", ">5", "#", ":", "!", " ", "é", "x!r:5", "()", "[]", "/", strings.Repeat(">", api.MaxField), "\u0085"} {
		expectForm(t, s, in(s, 0), 2, true)
		expectForm(t, s, in(s, 'r'), 2, true)
	}
	for _, s := range []string{"{", "}", "{}", "'", `"`, `\`, "\n", "\t", "\x00", "\xff", "a}", "}{x", strings.Repeat(">", api.MaxField+1), strings.Repeat(">", api.MaxSource)} {
		expectForm(t, s, in(s, 0), 2, false)
		expectForm(t, s, in(s, 's'), 2, false)
	}
}

// R8.3: Exprs, Subs and Names of each kind of pattern.
func TestPatternFields(t *testing.T) {
	wild := func(n int) []api.Pattern {
		var l []api.Pattern
		for range n {
			l = append(l, pattern(api.PatWild))
		}
		return l
	}
	names := strings.Split("x y z w", " ")
	for exprs := range 4 {
		for subs := range 4 {
			for named := range 4 {
				permitted := map[int]bool{
					api.PatWild: exprs+subs+named == 0, api.PatCapture: exprs+subs+named == 0, api.PatStar: exprs+subs+named == 0, api.PatValue: exprs == 1 && subs+named == 0, api.PatSequence: exprs+named == 0,
					api.PatMapping: exprs == subs && named == 0, api.PatClass: exprs == 1 && named <= subs, api.PatOr: exprs+named == 0 && subs >= 2, api.PatAs: exprs+named == 0 && subs == 1,
				}
				for kind := api.PatWild; kind <= api.PatAs; kind++ {
					p := pattern(kind, wild(subs)...)
					p.Names = names[:named]
					p.Exprs = []api.Expr{attr(name("a"), "b"), attr(name("a"), "b"), attr(name("a"), "b")}[:exprs]
					if kind == api.PatCapture || kind == api.PatAs {
						p.Name = "n"
					}
					expectForm(t, fmt.Sprintf("pattern %d with %d, %d, %d", kind, exprs, subs, named), matching(pattern(api.PatSequence, p)), 3, permitted[kind])
				}
			}
		}
	}
	for kind := api.PatWild; kind <= api.PatAs; kind++ {
		p := samplePattern(kind)
		p.Name = "n"
		hasName := kind == api.PatCapture || kind == api.PatStar || kind == api.PatMapping || kind == api.PatAs
		expectForm(t, fmt.Sprint("name of a pattern ", kind), matching(pattern(api.PatSequence, p)), 3, hasName)
	}
	star := capture(api.PatStar, "")
	expectForm(t, "two stars", matching(pattern(api.PatSequence, star, pattern(api.PatWild), capture(api.PatStar, "n"))), 2, false)
	expectForm(t, "a star in each", matching(pattern(api.PatSequence, star, pattern(api.PatSequence, star), pattern(api.PatSequence, pattern(api.PatWild), star))), 2, true)
	expectFault(t, "two stars in an or", matching(pattern(api.PatOr, star, star)), fault(api.ErrKind, 3))
}
