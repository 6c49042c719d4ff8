package tree

import (
	"slices"

	"brindlewood/api"
)

func alikeStmts(a, b api.Stmt) bool {
	return a.Kind == b.Kind && a.Name == b.Name && slices.Equal(a.Names, b.Names) && a.Op == b.Op &&
		alikeExprs(a.Exprs, b.Exprs) && alikeExprs(a.Args, b.Args) && alikeParams(a.Params, b.Params) &&
		alikeBlocks(a.Body, b.Body) && alikeBlocks(a.Else, b.Else) && alikeBlocks(a.Final, b.Final) &&
		slices.EqualFunc(a.Handlers, b.Handlers, alikeHandlers) &&
		slices.EqualFunc(a.Items, b.Items, alikeItems) &&
		slices.EqualFunc(a.Cases, b.Cases, alikeCases) && a.Async == b.Async
}

func alikeBlocks(a, b []api.Stmt) bool { return slices.EqualFunc(a, b, alikeStmts) }

func alikeHandlers(a, b api.Handler) bool {
	return a.Name == b.Name && alikeExprs(a.Exprs, b.Exprs) && alikeBlocks(a.Body, b.Body)
}

func alikeItems(a, b api.Item) bool {
	return alike(a.Value, b.Value) && alikeExprs(a.Target, b.Target)
}

func alikeCases(a, b api.Case) bool {
	return alikePatterns(a.Pattern, b.Pattern) && alikeExprs(a.Guard, b.Guard) && alikeBlocks(a.Body, b.Body)
}

func alikePatterns(a, b api.Pattern) bool {
	return a.Kind == b.Kind && a.Name == b.Name && slices.Equal(a.Names, b.Names) &&
		alikeExprs(a.Exprs, b.Exprs) && slices.EqualFunc(a.Subs, b.Subs, alikePatterns)
}

func alike(a, b api.Expr) bool {
	return a.Kind == b.Kind && equal(a.Const, b.Const) && a.Name == b.Name && a.Op == b.Op &&
		slices.Equal(a.Ops, b.Ops) && alikeExprs(a.Args, b.Args) && alikeParams(a.Params, b.Params) &&
		slices.EqualFunc(a.Loops, b.Loops, alikeLoops)
}

func alikeExprs(a, b []api.Expr) bool { return slices.EqualFunc(a, b, alike) }

func alikeLoops(a, b api.Loop) bool {
	return alike(a.Target, b.Target) && alike(a.Iter, b.Iter) && alikeExprs(a.Conds, b.Conds)
}

func alikeParams(a, b []api.Param) bool {
	return slices.EqualFunc(a, b, func(a, b api.Param) bool {
		return a.Kind == b.Kind && a.Name == b.Name && alikeExprs(a.Default, b.Default)
	})
}

// equal reports whether two constants are equal.
func equal(a, b api.Value) bool {
	return a.Kind == b.Kind && a.Ref == b.Ref && a.Text == b.Text &&
		slices.Equal(a.Num.Limbs, b.Num.Limbs) && slices.Equal(a.Den.Limbs, b.Den.Limbs)
}
