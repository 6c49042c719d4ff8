package tree

import (
	"slices"
	"strings"

	"brindlewood/api"
)

// copier copies expressions. It keeps a list of what is left to do instead of calling itself, as a function that replaces expressions may return some that are nested in any depth.
type copier struct {
	rest []*api.Expr // copies whose parts are still those of the originals
}

func copyExprs(l []api.Expr) []api.Expr {
	c := copier{}
	l = c.exprs(l)
	c.finish()
	return l
}

func copyExpr(e api.Expr) api.Expr {
	return copyExprs([]api.Expr{e})[0]
}

// exprs returns copies that are still to be finished.
func (c *copier) exprs(l []api.Expr) []api.Expr {
	l = slices.Clone(l)
	for i := range l {
		c.rest = append(c.rest, &l[i])
	}
	return l
}

// finish copies the parts of all copies.
func (c *copier) finish() {
	for len(c.rest) > 0 {
		last := len(c.rest) - 1
		e := c.rest[last]
		c.rest = c.rest[:last]
		c.parts(e)
	}
}

func (c *copier) parts(e *api.Expr) {
	e.Const = Copy(e.Const)
	e.Name = strings.Clone(e.Name)
	e.Ops = slices.Clone(e.Ops)
	e.Args = c.exprs(e.Args)
	e.Params = slices.Clone(e.Params)
	for i := range e.Params {
		e.Params[i].Name = strings.Clone(e.Params[i].Name)
		e.Params[i].Default = c.exprs(e.Params[i].Default)
	}
	e.Loops = slices.Clone(e.Loops)
	for i := range e.Loops {
		loop := &e.Loops[i]
		c.rest = append(c.rest, &loop.Target, &loop.Iter)
		loop.Conds = c.exprs(loop.Conds)
	}
}
