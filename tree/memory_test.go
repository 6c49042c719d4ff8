package tree_test

import (
	"reflect"
	"testing"

	"brindlewood/api"
	"brindlewood/tree"
)

// forCalls calls every function that takes a tree.
func forCalls(l []api.Stmt, visit func(what string, result any)) {
	visit("Validate", tree.Validate(l))
	lines, _ := tree.Lines(l)
	visit("Lines", lines)
	for _, by := range []int{0, 1, -1, 5, api.MaxSource} {
		shifted, _ := tree.Shift(l, by)
		visit("Shift", shifted)
	}
	tree.Alike(l, l)
	tree.Alike(l, nil)
	tree.Alike(nil, l)
	visit("Alike", true)
	same, _ := tree.Replace(l, identity)
	visit("Replace", same)
	other, _ := tree.Replace(l, func(e api.Expr) api.Expr {
		// What is passed may be changed, with its spare capacity.
		e.Args = append(e.Args[:0], name("x"))
		for i := range e.Ops {
			e.Ops[i] = 9
		}
		for i := range e.Params {
			e.Params[i].Name = "x"
		}
		for i := range e.Loops {
			e.Loops[i].Conds = append(e.Loops[i].Conds[:0], name("x"))
		}
		for i := range e.Const.Num.Limbs {
			e.Const.Num.Limbs[i]++
		}
		return e
	})
	visit("Replace with changes", other)
	renumbered, _ := tree.Renumber(l, func(line int) int { return line + 1 })
	visit("Renumber", renumbered)
	wrong, _ := tree.Renumber(l, func(line int) int { return line - 1 })
	visit("Renumber with errors", wrong)
}

// Z4: trees, with their spare capacity, stay as they are, and results have memory of their own.
func TestArguments(t *testing.T) {
	for _, l := range append(samples(), block(stmt(99), pass()), block(expression(name("1"))), block(try(0))) {
		argument := reflected(reflect.ValueOf(l), 2).Interface().([]api.Stmt)
		before := dump(reflect.ValueOf(argument))
		forCalls(argument, func(what string, result any) {
			if dump(reflect.ValueOf(argument)) != before {
				t.Fatalf("%s changed the tree %s", what, brief(l))
			}
			expectOwnMemory(t, what, result, argument)
		})
	}
}

// Z4: results whose parts are changed, or to whose lists something is appended, leave the argument and each other alone.
func TestResults(t *testing.T) {
	for _, l := range samples() {
		before := clone(l)
		first, _ := tree.Shift(l, 3)
		second, _ := tree.Shift(l, 3)
		for _, p := range partsOf(reflect.ValueOf(&first).Elem(), "", nil) {
			if p.v.Kind() == reflect.Slice && p.v.Cap() > p.v.Len() {
				mark(p.v.Slice(0, p.v.Cap()).Index(p.v.Len()))
			}
		}
		if !same(first, second) || !same(l, before) {
			t.Fatal("the spare capacity of a list is another list")
		}
		for _, p := range partsOf(reflect.ValueOf(&first).Elem(), "", nil) {
			if p.v.Kind() == reflect.Int {
				p.v.SetInt(1234)
			}
		}
		again, _ := tree.Shift(l, 3)
		if !same(again, second) || !same(l, before) {
			t.Fatal("a result has changed with another one")
		}
	}
}
