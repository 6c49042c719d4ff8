package tree_test

import (
	"fmt"
	"reflect"
	"testing"
	"unsafe"

	"brindlewood/api"
	"brindlewood/tree"
)

const minInt, maxInt = -1 << 63, 1<<63 - 1

var noFault = api.Fault{}

func fault(code, index int) api.Fault { return api.Fault{Code: code, Index: index} }

// Expressions at line 1.

func expr(kind int, args ...api.Expr) api.Expr {
	return api.Expr{Kind: kind, Line: 1, Args: args}
}

func operation(kind, op int, args ...api.Expr) api.Expr {
	return api.Expr{Kind: kind, Line: 1, Op: op, Args: args}
}

func name(s string) api.Expr { return api.Expr{Kind: api.ExprName, Line: 1, Name: s} }

func attr(e api.Expr, s string) api.Expr {
	return api.Expr{Kind: api.ExprAttr, Line: 1, Name: s, Args: []api.Expr{e}}
}

func named(s string, e api.Expr) api.Expr {
	return api.Expr{Kind: api.ExprNamed, Line: 1, Name: s, Args: []api.Expr{e}}
}

func literalOf(v api.Value) api.Expr { return api.Expr{Kind: api.ExprConst, Line: 1, Const: v} }

func number(n uint32) api.Expr {
	if n == 0 {
		return literalOf(api.Value{Kind: api.KindInt})
	}
	return literalOf(api.Value{Kind: api.KindInt, Num: api.Int{Limbs: []uint32{n}}})
}

// ratio is the number n + 1/2.
func ratio(n uint32) api.Expr {
	return literalOf(api.Value{Kind: api.KindRatio, Num: api.Int{Limbs: []uint32{2*n + 1}}, Den: api.Int{Limbs: []uint32{2}}})
}

func text(s string) api.Expr { return literalOf(api.Value{Kind: api.KindText, Text: s}) }

func byteString(s string) api.Expr { return literalOf(api.Value{Kind: api.KindBytes, Text: s}) }

func compare(ops []int, args ...api.Expr) api.Expr {
	return api.Expr{Kind: api.ExprCompare, Line: 1, Ops: ops, Args: args}
}

func none() api.Expr { return api.Expr{Kind: api.ExprNone} }

func fn(params []api.Param, e api.Expr) api.Expr {
	return api.Expr{Kind: api.ExprFn, Line: 1, Params: params, Args: []api.Expr{e}}
}

func field(op int, specification string, e api.Expr) api.Expr {
	return api.Expr{Kind: api.ExprField, Line: 1, Op: op, Name: specification, Args: []api.Expr{e}}
}

func comprehension(op int, e api.Expr, loops ...api.Loop) api.Expr {
	return api.Expr{Kind: api.ExprLoops, Line: 1, Op: op, Args: []api.Expr{e}, Loops: loops}
}

func loop(to, over api.Expr, conds ...api.Expr) api.Loop {
	return api.Loop{Target: to, Iter: over, Conds: conds}
}

// Parameters.

func param(kind int, s string, byDefault ...api.Expr) api.Param {
	return api.Param{Kind: kind, Name: s, Default: byDefault}
}

func plain(names ...string) []api.Param {
	var l []api.Param
	for _, s := range names {
		l = append(l, param(api.ParamPlain, s))
	}
	return l
}

// Statements at line 1.

func stmt(kind int, exprs ...api.Expr) api.Stmt {
	return api.Stmt{Kind: kind, Line: 1, Exprs: exprs}
}

func pass() api.Stmt { return stmt(api.StmtPass) }

func expression(e api.Expr) api.Stmt { return stmt(api.StmtExpr, e) }

func declare(kind int, names ...string) api.Stmt {
	return api.Stmt{Kind: kind, Line: 1, Names: names}
}

func load(kind int, s string, names ...string) api.Stmt {
	return api.Stmt{Kind: kind, Line: 1, Name: s, Names: names}
}

func augment(op int, exprs ...api.Expr) api.Stmt {
	return api.Stmt{Kind: api.StmtAugment, Line: 1, Op: op, Exprs: exprs}
}

// with gives a statement a body.
func with(s api.Stmt, body ...api.Stmt) api.Stmt {
	s.Body = body
	return s
}

// orElse gives a statement an Else.
func orElse(s api.Stmt, l ...api.Stmt) api.Stmt {
	s.Else = l
	return s
}

func def(s string, params []api.Param, body ...api.Stmt) api.Stmt {
	return api.Stmt{Kind: api.StmtDef, Line: 1, Name: s, Params: params, Body: body}
}

func async(s api.Stmt) api.Stmt {
	s.Async = true
	return s
}

func decorated(s api.Stmt, decorators ...api.Expr) api.Stmt {
	s.Exprs = decorators
	return s
}

func class(s string, args []api.Expr, body ...api.Stmt) api.Stmt {
	return api.Stmt{Kind: api.StmtClass, Line: 1, Name: s, Args: args, Body: body}
}

func handler(s string, exprs []api.Expr, body ...api.Stmt) api.Handler {
	return api.Handler{Line: 1, Name: s, Exprs: exprs, Body: body}
}

// try is a try with a Body that consists of a pass.
func try(op int, handlers ...api.Handler) api.Stmt {
	return api.Stmt{Kind: api.StmtTry, Line: 1, Op: op, Body: block(pass()), Handlers: handlers}
}

func finally(s api.Stmt, l ...api.Stmt) api.Stmt {
	s.Final = l
	return s
}

func item(e api.Expr, targets ...api.Expr) api.Item { return api.Item{Value: e, Target: targets} }

func using(items ...api.Item) api.Stmt {
	return api.Stmt{Kind: api.StmtWith, Line: 1, Items: items, Body: block(pass())}
}

func option(p api.Pattern, guard []api.Expr, body ...api.Stmt) api.Case {
	return api.Case{Line: 1, Pattern: p, Guard: guard, Body: body}
}

// match is a match of the name v.
func match(cases ...api.Case) api.Stmt {
	return api.Stmt{Kind: api.StmtMatch, Line: 1, Exprs: list(name("v")), Cases: cases}
}

// matching is a match with one case.
func matching(p api.Pattern) []api.Stmt { return block(match(option(p, nil, pass()))) }

func block(l ...api.Stmt) []api.Stmt { return l }

func list(l ...api.Expr) []api.Expr { return l }

// Patterns at line 1.

func pattern(kind int, subs ...api.Pattern) api.Pattern {
	return api.Pattern{Kind: kind, Line: 1, Subs: subs}
}

func capture(kind int, s string, subs ...api.Pattern) api.Pattern {
	return api.Pattern{Kind: kind, Line: 1, Name: s, Subs: subs}
}

func constantPattern(e api.Expr) api.Pattern {
	return api.Pattern{Kind: api.PatValue, Line: 1, Exprs: list(e)}
}

func classPattern(e api.Expr, names []string, subs ...api.Pattern) api.Pattern {
	return api.Pattern{Kind: api.PatClass, Line: 1, Exprs: list(e), Names: names, Subs: subs}
}

func mapping(rest string, keys []api.Expr, subs ...api.Pattern) api.Pattern {
	return api.Pattern{Kind: api.PatMapping, Line: 1, Name: rest, Exprs: keys, Subs: subs}
}

// clone returns a deep copy.
func clone[T any](v T) T {
	return reflected(reflect.ValueOf(&v).Elem(), 0).Interface().(T)
}

// reflected returns a deep copy of a value, whose slices have some spare elements that are not zero.
func reflected(v reflect.Value, spare int) reflect.Value {
	c := reflect.New(v.Type()).Elem()
	switch v.Kind() {
	case reflect.Slice:
		if v.Len() == 0 && spare == 0 {
			return c
		}
		c.Set(reflect.MakeSlice(v.Type(), v.Len()+spare, v.Len()+spare))
		for i := range v.Len() {
			c.Index(i).Set(reflected(v.Index(i), spare))
		}
		for i := range spare {
			mark(c.Index(v.Len() + i))
		}
		c.Set(c.Slice(0, v.Len()))
	case reflect.Struct:
		for i := range v.NumField() {
			c.Field(i).Set(reflected(v.Field(i), spare))
		}
	default:
		c.Set(v)
	}
	return c
}

// mark makes a spare element one that is not zero.
func mark(v reflect.Value) {
	switch v.Kind() {
	case reflect.Struct:
		mark(v.Field(0))
	case reflect.String:
		v.SetString("spare")
	case reflect.Int:
		v.SetInt(77)
	case reflect.Uint32:
		v.SetUint(77)
	default:
		panic("a spare element of the kind " + v.Kind().String())
	}
}

// dump is the text of a value, with all that its slices have room for.
func dump(v reflect.Value) string {
	switch v.Kind() {
	case reflect.Slice:
		s := fmt.Sprint("[", v.Len(), ":")
		for i := range v.Cap() {
			s += dump(v.Slice(0, v.Cap()).Index(i)) + ","
		}
		return s + "]"
	case reflect.Struct:
		s := "{"
		for i := range v.NumField() {
			s += dump(v.Field(i)) + ","
		}
		return s + "}"
	}
	return fmt.Sprintf("%#v", v.Interface())
}

// same reports whether two values are equal, with nil and empty slices being so.
func same(a, b any) bool { return sameValues(reflect.ValueOf(a), reflect.ValueOf(b)) }

func sameValues(a, b reflect.Value) bool {
	switch a.Kind() {
	case reflect.Slice:
		if a.Len() != b.Len() {
			return false
		}
		for i := range a.Len() {
			if !sameValues(a.Index(i), b.Index(i)) {
				return false
			}
		}
		return true
	case reflect.Struct:
		for i := range a.NumField() {
			if !sameValues(a.Field(i), b.Field(i)) {
				return false
			}
		}
		return true
	}
	return a.Equal(b)
}

// memory is the ranges of addresses of all slices, with their spare capacity, and texts of a value.
func memory(v reflect.Value) [][2]uintptr {
	var l [][2]uintptr
	add := func(from, size uintptr) {
		if size > 0 {
			l = append(l, [2]uintptr{from, from + size})
		}
	}
	switch v.Kind() {
	case reflect.Slice:
		add(v.Pointer(), uintptr(v.Cap())*v.Type().Elem().Size())
		for i := range v.Len() {
			l = append(l, memory(v.Index(i))...)
		}
	case reflect.Struct:
		for i := range v.NumField() {
			l = append(l, memory(v.Field(i))...)
		}
	case reflect.String:
		add(uintptr(unsafe.Pointer(unsafe.StringData(v.String()))), uintptr(v.Len()))
	}
	return l
}

// expectOwnMemory checks that no two parts of a result share memory, and none of it with other values.
func expectOwnMemory(t *testing.T, what string, result any, others ...any) {
	t.Helper()
	own := memory(reflect.ValueOf(result))
	var all [][2]uintptr
	for _, v := range others {
		all = append(all, memory(reflect.ValueOf(v))...)
	}
	for i, a := range own {
		for _, b := range append(all, own[:i]...) {
			if a[0] < b[1] && b[0] < a[1] {
				t.Fatalf("%s: the result shares memory", what)
			}
		}
	}
}

// brief is the text of a value, shortened.
func brief(v any) string {
	s := fmt.Sprintf("%+v", v)
	if len(s) > 1200 {
		return s[:1200] + " .."
	}
	return s
}

// expectFault compares the fault of a tree with the one that is given and with the oracle.
func expectFault(t *testing.T, what string, l []api.Stmt, want api.Fault) {
	t.Helper()
	if got := tree.Validate(l); got != want {
		t.Errorf("%s: fault %v, want %v\n%s", what, got, want, brief(l))
	}
	expectOracle(t, what, l)
}

// expectOracle compares the fault of a tree with the oracle.
func expectOracle(t *testing.T, what string, l []api.Stmt) {
	t.Helper()
	if got, want := tree.Validate(l), wantFault(l); got != want {
		t.Errorf("%s: fault %v, the oracle's is %v\n%s", what, got, want, brief(l))
	}
}

// expectValid checks that a tree has no fault.
func expectValid(t *testing.T, what string, l []api.Stmt) {
	t.Helper()
	expectFault(t, what, l, noFault)
}
