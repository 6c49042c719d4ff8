package tree_test

import (
	"fmt"
	"strings"
	"testing"

	"brindlewood/api"
	"brindlewood/tree"
)

// Texts that are no names, and texts that are.
var (
	wrongNames   = []string{"1a", "if", "a.b", "a b", "é", "a\n", " a", strings.Repeat("a", api.MaxName+1)}
	correctNames = []string{"a", "_", "_1", "Z9", strings.Repeat("a", api.MaxName)}
)

// expectNames checks that a text of a node has to be a name: with an empty one the fault is ErrName, unless it may be empty.
func expectNames(t *testing.T, what string, mayBeEmpty bool, at int, put func(s string) []api.Stmt) {
	t.Helper()
	for _, s := range correctNames {
		expectValid(t, what, put(s))
	}
	for _, s := range wrongNames {
		expectFault(t, what+" "+s, put(s), fault(api.ErrName, at))
	}
	if mayBeEmpty {
		expectValid(t, what, put(""))
	} else {
		expectFault(t, what+" without a name", put(""), fault(api.ErrName, at))
	}
}

// R8.2: every text that has to be a name.
func TestNamesOfNodes(t *testing.T) {
	a := name("a")
	expectNames(t, "name", false, 1, func(s string) []api.Stmt { return block(expression(name(s))) })
	expectNames(t, "attribute", false, 1, func(s string) []api.Stmt { return block(expression(attr(a, s))) })
	expectNames(t, "named", false, 3, func(s string) []api.Stmt { return block(expression(expr(api.ExprCall, a, named(s, a)))) })
	expectNames(t, "named of a class", false, 1, func(s string) []api.Stmt { return block(class("c", list(named(s, a)), pass())) })
	expectNames(t, "def", false, 0, func(s string) []api.Stmt { return block(def(s, nil, pass())) })
	expectNames(t, "class", false, 0, func(s string) []api.Stmt { return block(class(s, nil, pass())) })
	expectNames(t, "as", false, 0, func(s string) []api.Stmt { return block(load(api.StmtImport, "m.n", s)) })
	for _, kind := range []int{api.StmtGlobal, api.StmtOuter} {
		expectNames(t, "declared", false, 1, func(s string) []api.Stmt { return block(def("f", nil, declare(kind, s))) })
		expectNames(t, "declared", false, 1, func(s string) []api.Stmt { return block(def("f", nil, declare(kind, "x", s, "y"))) })
	}
	for i := range 4 {
		expectNames(t, "from", false, 0, func(s string) []api.Stmt {
			names := []string{"x", "x", "x", "x"}
			names[i] = s
			return block(load(api.StmtFrom, "m", names...))
		})
	}
	expectNames(t, "handler", true, 0, func(s string) []api.Stmt { return block(try(0, handler(s, list(a), pass()))) })
	expectNames(t, "second handler", true, 0, func(s string) []api.Stmt {
		return block(try(1, handler("", list(a), pass()), handler(s, list(a), pass())))
	})
	expectNames(t, "names of a class pattern", false, 2, func(s string) []api.Stmt {
		return matching(classPattern(a, []string{"x", s}, pattern(api.PatWild), pattern(api.PatWild)))
	})
}

// R8.2: names of patterns, which are not _.
func TestNamesOfPatterns(t *testing.T) {
	wild := pattern(api.PatWild)
	for what, c := range map[string]struct {
		put        func(s string) []api.Stmt
		at         int
		mayBeEmpty bool
	}{
		"capture": {func(s string) []api.Stmt { return matching(capture(api.PatCapture, s)) }, 2, false},
		"as":      {func(s string) []api.Stmt { return matching(capture(api.PatAs, s, wild)) }, 2, false},
		"star":    {func(s string) []api.Stmt { return matching(pattern(api.PatSequence, capture(api.PatStar, s))) }, 3, true},
		"mapping": {func(s string) []api.Stmt { return matching(mapping(s, list(number(1)), wild)) }, 2, true},
	} {
		for _, s := range append([]string{"_"}, wrongNames...) {
			expectFault(t, what+" "+s, c.put(s), fault(api.ErrName, c.at))
		}
		for _, s := range []string{"a", "__", "_1", strings.Repeat("a", api.MaxName)} {
			expectValid(t, what+" "+s, c.put(s))
		}
		if c.mayBeEmpty {
			expectValid(t, what, c.put(""))
		} else {
			expectFault(t, what, c.put(""), fault(api.ErrName, c.at))
		}
	}
}

// R8.2: names of modules are dotted ones.
func TestDottedNames(t *testing.T) {
	for _, kind := range []int{api.StmtImport, api.StmtFrom} {
		names := []string{"x", "y"}[:2*(kind-api.StmtImport)]
		for _, s := range []string{"a", "a.b", "_._", strings.Repeat("a.", api.MaxDotted/2-1) + "ab"} {
			expectValid(t, s, block(load(kind, s, names...)))
		}
		for _, s := range []string{"", ".", "a.", ".a", "a..b", "a.if", "1", strings.Repeat("a.", api.MaxDotted/2) + "a"} {
			expectFault(t, s, block(load(kind, s, names...)), fault(api.ErrName, 0))
		}
	}
	for _, s := range []string{"a.b", "."} {
		expectFault(t, s, block(def(s, nil, pass())), fault(api.ErrName, 0))
		expectFault(t, s, block(class(s, nil, pass())), fault(api.ErrName, 0))
	}
}

// R8.2: names that have to be different, and names that need not.
func TestRepeatedNames(t *testing.T) {
	a, wild := name("a"), pattern(api.PatWild)
	for _, kind := range []int{api.StmtGlobal, api.StmtOuter} {
		expectFault(t, "declared", block(def("f", nil, declare(kind, "x", "x"))), fault(api.ErrRepeated, 1))
		expectFault(t, "declared", block(def("f", nil, declare(kind, "x", "y", "z", "y"))), fault(api.ErrRepeated, 1))
		expectValid(t, "declared", block(def("f", nil, declare(kind, "x", "y", "X", "x_"), declare(kind, "x"))))
	}
	expectValid(t, "from", block(load(api.StmtFrom, "x", "x", "x", "x", "x"), load(api.StmtImport, "x", "x")))
	subs := []api.Pattern{wild, wild, wild}
	expectFault(t, "class pattern", matching(classPattern(a, []string{"x", "x"}, subs...)), fault(api.ErrRepeated, 2))
	expectFault(t, "class pattern", matching(classPattern(a, []string{"x", "_", "x"}, subs...)), fault(api.ErrRepeated, 2))
	expectFault(t, "class pattern", matching(classPattern(a, []string{"_", "_"}, subs...)), fault(api.ErrRepeated, 2))
	expectValid(t, "class pattern", matching(classPattern(a, []string{"x", "y", "z"}, subs...)))
	expectValid(t, "captures", matching(pattern(api.PatSequence, capture(api.PatCapture, "x"), capture(api.PatCapture, "x"))))

	x, y := named("x", a), named("y", a)
	expectFault(t, "call", block(expression(expr(api.ExprCall, a, x, x))), fault(api.ErrRepeated, 1))
	expectFault(t, "call", block(expression(expr(api.ExprCall, a, a, x, y, expr(api.ExprPairs, a), y))), fault(api.ErrRepeated, 1))
	expectValid(t, "call", block(expression(expr(api.ExprCall, a, x, y, named("z", a)))))
	expectFault(t, "class", block(class("c", list(x, x), pass())), fault(api.ErrRepeated, 0))
	expectFault(t, "class", block(class("c", list(a, x, y, x), pass())), fault(api.ErrRepeated, 0))
	expectValid(t, "class", block(class("c", list(x, y), pass()), class("c", list(x), pass())))
	expectValid(t, "calls in a call", block(expression(expr(api.ExprCall, a, named("x", expr(api.ExprCall, a, x)), y))))
	// What is called is no argument, and names that are no names can be equal, too.
	expectFault(t, "callee", block(expression(expr(api.ExprCall, x, x))), fault(api.ErrKind, 2))
	expectFault(t, "no names", block(expression(expr(api.ExprCall, a, named("", a), named("", a)))), fault(api.ErrRepeated, 1))
	expectFault(t, "no names", block(class("c", list(named("if", a), named("if", a)), pass())), fault(api.ErrRepeated, 0))
}

// R8.2: the order of arguments: all lists of up to five kinds of them.
func TestOrderOfArguments(t *testing.T) {
	a := name("a")
	kinds := map[rune]api.Expr{'v': a, 's': expr(api.ExprStar, a), 'p': expr(api.ExprPairs, a)}
	var extend func(order string)
	extend = func(order string) {
		var args []api.Expr
		for i, k := range order {
			if k == 'n' {
				args = append(args, named(fmt.Sprint("n", i), a))
			} else {
				args = append(args, kinds[k])
			}
		}
		isOrdered := strings.Trim(strings.TrimLeft(order, "vs"), "np") == ""
		call := block(expression(expr(api.ExprCall, append(list(a), args...)...)))
		if isOrdered {
			expectValid(t, order, call)
		} else {
			expectFault(t, order, call, fault(api.ErrOrder, 1))
		}
		if !strings.ContainsAny(order, "sp") {
			if isOrdered {
				expectValid(t, order, block(class("c", args, pass())))
			} else {
				expectFault(t, order, block(class("c", args, pass())), fault(api.ErrOrder, 0))
			}
		}
		if len(order) < 5 {
			for _, k := range "vsnp" {
				extend(order + string(k))
			}
		}
	}
	extend("")
	expectFault(t, "names before order", block(expression(expr(api.ExprCall, a, named("n", a), a, named("n", a)))), fault(api.ErrRepeated, 1))
	expectFault(t, "an argument of no kind", block(expression(expr(api.ExprCall, a, named("n", a), expr(99)))), fault(api.ErrOrder, 1))
	expectFault(t, "an argument of no kind", block(expression(expr(api.ExprCall, a, expr(99), named("n", a)))), fault(api.ErrKind, 3))
	expectValid(t, "other lists", block(expression(expr(api.ExprList, expr(api.ExprStar, a), a))))
}

// parametersOf are trees with parameters, with the number of the node that has them.
func parametersOf(l []api.Param) map[string]struct {
	l  []api.Stmt
	at int
} {
	return map[string]struct {
		l  []api.Stmt
		at int
	}{
		"def":       {block(def("f", l, pass())), 0},
		"async def": {block(pass(), async(def("f", l, pass()))), 1},
		"fn":        {block(expression(fn(l, name("a")))), 1},
	}
}

func expectParams(t *testing.T, what string, code int, l ...api.Param) {
	t.Helper()
	for where, p := range parametersOf(l) {
		if code == api.OK {
			expectValid(t, what+" of a "+where, p.l)
		} else {
			expectFault(t, what+" of a "+where, p.l, fault(code, p.at))
		}
	}
}

// R8.2: all lists of up to six parameters, in every order.
func TestOrderOfParams(t *testing.T) {
	letters := "pds*ox"
	var extend func(order string)
	extend = func(order string) {
		var l []api.Param
		for i, k := range order {
			s := fmt.Sprint("p", i)
			switch k {
			case 'p':
				l = append(l, param(api.ParamPlain, s))
			case 'd':
				l = append(l, param(api.ParamPlain, s, name("a")))
			case 's':
				l = append(l, param(api.ParamStar, s))
			case '*':
				l = append(l, param(api.ParamStar, ""))
			case 'o':
				// Defaults of parameters behind a star may come in any order.
				l = append(l, param(api.ParamOnly, s, many(i%2)...))
			case 'x':
				l = append(l, param(api.ParamPairs, s))
			}
		}
		want := noFault
		if !paramOrder.MatchString(order) {
			want = fault(api.ErrOrder, 0)
		}
		if got := tree.Validate(block(def("f", l, pass()))); got != want {
			t.Errorf("parameters %s: fault %v, want %v", order, got, want)
		}
		if len(order) < 3 {
			expectParams(t, order, want.Code, l...)
		}
		if len(order) < 6 {
			for _, k := range letters {
				extend(order + string(k))
			}
		}
	}
	extend("")
	for _, order := range []string{"", "p", "pp", "pd", "dd", "ppdd", "s", "so", "soo", "*o", "*oo", "x", "px", "ps", "p*ox", "pdsoox"} {
		if !paramOrder.MatchString(order) {
			t.Errorf("%s should be permitted", order)
		}
	}
	for _, order := range []string{"dp", "sp", "o", "po", "*", "p*", "*x", "*p", "ss", "s*o", "*o*o", "xp", "xs", "x*o", "xx", "sox*", "*sx"} {
		if paramOrder.MatchString(order) {
			t.Errorf("%s should not be permitted", order)
		}
	}
}

// R8.2: each parameter by itself.
func TestParams(t *testing.T) {
	a := name("a")
	p := param(api.ParamPlain, "p")
	for _, kind := range []int{minInt, -1, 4, 5, maxInt} {
		expectParams(t, "kind", api.ErrForm, param(kind, "p"))
		expectParams(t, "kind", api.ErrForm, p, param(kind, "p"))
		expectParams(t, "kind before name", api.ErrForm, param(kind, ""))
	}
	for kind := api.ParamPlain; kind <= api.ParamPairs; kind++ {
		ahead := []api.Param{}
		if kind == api.ParamOnly {
			ahead = []api.Param{param(api.ParamStar, "s")}
		}
		for n := range 4 {
			code := api.OK
			if n > 1 || n == 1 && (kind == api.ParamStar || kind == api.ParamPairs) {
				code = api.ErrForm
			}
			expectParams(t, fmt.Sprintf("kind %d with %d defaults", kind, n), code, append(ahead, param(kind, "p", many(n)...))...)
			if code == api.OK && kind != api.ParamStar {
				code = api.ErrName
			} else if code == api.OK {
				code = api.ErrOrder
			}
			expectParams(t, fmt.Sprintf("kind %d without a name, with %d defaults", kind, n), code, append(ahead, param(kind, "", many(n)...))...)
		}
		for _, s := range wrongNames {
			expectParams(t, "name", api.ErrName, append(ahead, param(kind, s))...)
		}
		for _, s := range correctNames {
			expectParams(t, "name", api.OK, append(ahead, param(kind, s))...)
		}
	}
	expectFault(t, "a wrong default", block(def("f", []api.Param{param(api.ParamPlain, "p", expr(99))}, pass())), fault(api.ErrKind, 1))
	expectFault(t, "a wrong second default", block(def("f", []api.Param{param(api.ParamPlain, "p", a), param(api.ParamPlain, "q", expr(99))}, pass())), fault(api.ErrKind, 2))
}

// R8.2: the number and the names of parameters, and the order of their errors.
func TestParamLists(t *testing.T) {
	lots := func(n int) []api.Param {
		var l []api.Param
		for i := range n {
			l = append(l, param(api.ParamPlain, fmt.Sprint("p", i)))
		}
		return l
	}
	p, q, star, bare := param(api.ParamPlain, "p"), param(api.ParamPlain, "q"), param(api.ParamStar, "p"), param(api.ParamStar, "")
	expectParams(t, "as many as permitted", api.OK, lots(api.MaxParams)...)
	expectParams(t, "one more", api.ErrTooLarge, lots(api.MaxParams+1)...)
	expectParams(t, "many more", api.ErrTooLarge, lots(1000)...)
	expectParams(t, "equal", api.ErrRepeated, p, p)
	expectParams(t, "equal", api.ErrRepeated, p, q, p)
	expectParams(t, "equal", api.ErrRepeated, p, q, star)
	expectParams(t, "equal", api.ErrRepeated, p, bare, param(api.ParamOnly, "p"))
	expectParams(t, "equal", api.ErrRepeated, q, p, param(api.ParamPairs, "p"))
	expectParams(t, "equal", api.ErrRepeated, param(api.ParamPlain, "_"), param(api.ParamPlain, "_"))
	// Two stars without names have no names that are equal.
	expectParams(t, "stars", api.ErrOrder, bare, bare)
	expectParams(t, "stars", api.ErrOrder, bare, param(api.ParamOnly, "o"), bare, param(api.ParamOnly, "u"))

	wrongKind, wrongName := param(9, "k"), param(api.ParamPlain, "1")
	expectParams(t, "each by itself, in order", api.ErrForm, wrongKind, wrongName)
	expectParams(t, "each by itself, in order", api.ErrName, wrongName, wrongKind)
	expectParams(t, "form before name", api.ErrForm, param(api.ParamPlain, "1", many(2)...))
	expectParams(t, "name before number", api.ErrName, append(lots(api.MaxParams+1), wrongName)...)
	expectParams(t, "form before number", api.ErrForm, append(lots(api.MaxParams+1), wrongKind)...)
	expectParams(t, "number before equal names", api.ErrTooLarge, append(lots(api.MaxParams), lots(1)...)...)
	expectParams(t, "number before order", api.ErrTooLarge, append(lots(api.MaxParams), bare)...)
	expectParams(t, "equal names before order", api.ErrRepeated, param(api.ParamPairs, "p"), p)
	expectParams(t, "name before order", api.ErrName, param(api.ParamPairs, "p"), wrongName)
}
