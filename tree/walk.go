package tree

import (
	"brindlewood/api"
)

// walker goes through the nodes of a tree, in order.
type walker struct {
	onLine func(line *int)   // is called with each line of a node, handler or case, ahead of what is in it
	onExpr func(e *api.Expr) // is called with each expression that is no part of a pattern, behind what is in it
}

// eachLine calls a function with each line of a tree.
func eachLine(tree []api.Stmt, visit func(line *int)) {
	w := walker{onLine: visit, onExpr: func(*api.Expr) {}}
	w.block(tree)
}

// eachExpr calls a function with each expression of a tree that is no part of a pattern, behind what is in it.
func eachExpr(tree []api.Stmt, visit func(e *api.Expr)) {
	w := walker{onLine: func(*int) {}, onExpr: visit}
	w.block(tree)
}

func (w walker) block(l []api.Stmt) {
	for i := range l {
		w.stmt(&l[i])
	}
}

func (w walker) stmt(s *api.Stmt) {
	w.onLine(&s.Line)
	w.exprs(s.Exprs)
	w.exprs(s.Args)
	w.defaults(s.Params)
	for i := range s.Items {
		w.expr(&s.Items[i].Value)
		w.exprs(s.Items[i].Target)
	}
	for i := range s.Handlers {
		w.onLine(&s.Handlers[i].Line)
		w.exprs(s.Handlers[i].Exprs)
		w.block(s.Handlers[i].Body)
	}
	for i := range s.Cases {
		w.onLine(&s.Cases[i].Line)
		w.pattern(&s.Cases[i].Pattern)
		w.exprs(s.Cases[i].Guard)
		w.block(s.Cases[i].Body)
	}
	w.block(s.Body)
	w.block(s.Else)
	w.block(s.Final)
}

func (w walker) exprs(l []api.Expr) {
	for i := range l {
		w.expr(&l[i])
	}
}

func (w walker) defaults(l []api.Param) {
	for i := range l {
		w.exprs(l[i].Default)
	}
}

func (w walker) expr(e *api.Expr) {
	if e.Kind != api.ExprNone {
		w.onLine(&e.Line)
	}
	w.exprs(e.Args)
	w.defaults(e.Params)
	for i := range e.Loops {
		w.expr(&e.Loops[i].Target)
		w.expr(&e.Loops[i].Iter)
		w.exprs(e.Loops[i].Conds)
	}
	w.onExpr(e)
}

func (w walker) pattern(p *api.Pattern) {
	w.onLine(&p.Line)
	within := walker{onLine: w.onLine, onExpr: func(*api.Expr) {}}
	within.exprs(p.Exprs)
	for i := range p.Subs {
		w.pattern(&p.Subs[i])
	}
}
