package tree

import (
	"brindlewood/api"
)

// checker goes through a tree, node by node, and panics with the first fault.
type checker struct {
	next int // the number of the next node
}

// node begins the check of the next node, and returns a function that ends it with an error unless something holds.
func (c *checker) node(level, deepest int) func(holds bool, code int) {
	number := c.next
	c.next++
	require := func(holds bool, code int) {
		if !holds {
			panic(api.Fault{Code: code, Index: number})
		}
	}
	require(number < api.MaxNodes, api.ErrTooMany)
	require(level <= deepest, api.ErrDepth)
	return require
}

func (c *checker) block(l []api.Stmt, level int, in context) {
	for i := range l {
		c.stmt(&l[i], level, in)
	}
}

func (c *checker) stmt(s *api.Stmt, level int, in context) {
	require := c.node(level, api.MaxNesting)
	require(api.StmtExpr <= s.Kind && s.Kind <= api.StmtMatch, api.ErrKind)
	require(isLine(s.Line), api.ErrRange)
	require(isFormedStmt(s), api.ErrForm)
	require(hasStmtNames(s), api.ErrName)
	declares := s.Kind == api.StmtGlobal || s.Kind == api.StmtOuter
	require(!declares || areDistinct(s.Names), api.ErrRepeated)
	require(areDistinct(namesOfArguments(s.Args)), api.ErrRepeated)
	require(areOrdered(s.Args), api.ErrOrder)
	code := errorOfParams(s.Params)
	require(code == api.OK, code)
	require(in.permitsStmt(s.Kind), api.ErrState)
	c.partsOfStmt(s, level, in)
}

// partsOfStmt checks what a statement contains.
func (c *checker) partsOfStmt(s *api.Stmt, level int, in context) {
	for i := range s.Exprs {
		c.expr(&s.Exprs[i], placeInStmt(s, i), 1, in)
	}
	c.exprs(s.Args, atArgument, 1, in)
	c.defaults(s.Params, 1, in)
	for i := range s.Items {
		c.expr(&s.Items[i].Value, atValue, 1, in)
		c.exprs(s.Items[i].Target, atTarget, 1, in)
	}
	for i := range s.Handlers {
		c.exprs(s.Handlers[i].Exprs, atValue, 1, in)
		c.block(s.Handlers[i].Body, level+1, in.handler(s))
	}
	for i := range s.Cases {
		c.pattern(&s.Cases[i].Pattern, false, 1)
		c.exprs(s.Cases[i].Guard, atValue, 1, in)
		c.block(s.Cases[i].Body, level+1, in)
	}
	c.block(s.Body, level+1, in.body(s))
	c.block(s.Else, level+1, in)
	c.block(s.Final, level+1, in)
}

func (c *checker) exprs(l []api.Expr, at place, level int, in context) {
	for i := range l {
		c.expr(&l[i], at, level, in)
	}
}

func (c *checker) defaults(l []api.Param, level int, in context) {
	for i := range l {
		c.exprs(l[i].Default, atValue, level, in)
	}
}

func (c *checker) expr(e *api.Expr, at place, level int, in context) {
	require := c.node(level, api.MaxDepth)
	require(at.permits(e.Kind), api.ErrKind)
	require(e.Kind != api.ExprFormat || !in.field, api.ErrKind)
	require(hasLine(e), api.ErrRange)
	require(isFormedExpr(e) && fitsPlace(e, at) && (!in.field || fitsField(e)), api.ErrForm)
	require(hasExprName(e), api.ErrName)
	if e.Kind == api.ExprCall {
		arguments := e.Args[1:]
		require(areDistinct(namesOfArguments(arguments)), api.ErrRepeated)
		require(areOrdered(arguments), api.ErrOrder)
	}
	code := errorOfParams(e.Params)
	require(code == api.OK, code)
	require(in.permitsExpr(e.Kind), api.ErrState)
	c.partsOfExpr(e, at, level+1, in)
}

// partsOfExpr checks what an expression contains.
func (c *checker) partsOfExpr(e *api.Expr, at place, level int, in context) {
	within := in.within(e)
	for i := range e.Args {
		c.expr(&e.Args[i], placeInExpr(e, at, i), level, within)
	}
	c.defaults(e.Params, level, in)
	ofIter := in
	for i := range e.Loops {
		c.expr(&e.Loops[i].Target, atTarget, level, within)
		c.expr(&e.Loops[i].Iter, atValue, level, ofIter)
		c.exprs(e.Loops[i].Conds, atValue, level, within)
		ofIter = within
	}
}

func (c *checker) pattern(p *api.Pattern, inSequence bool, level int) {
	require := c.node(level, api.MaxDepth)
	require(api.PatWild <= p.Kind && p.Kind <= api.PatAs, api.ErrKind)
	require(p.Kind != api.PatStar || inSequence, api.ErrKind)
	require(isLine(p.Line), api.ErrRange)
	require(isFormedPattern(p), api.ErrForm)
	require(hasPatternNames(p), api.ErrName)
	require(areDistinct(p.Names), api.ErrRepeated)
	at := atConstant
	if p.Kind == api.PatClass {
		at = atDotted
	}
	// Nothing that may stand at these places depends on a context.
	c.exprs(p.Exprs, at, 1, context{})
	for i := range p.Subs {
		c.pattern(&p.Subs[i], p.Kind == api.PatSequence, level+1)
	}
}
