package tree

import (
	"slices"
	"strings"

	"brindlewood/api"
)

// copyStmts returns statements in new memory.
func copyStmts(l []api.Stmt) []api.Stmt {
	l = slices.Clone(l)
	for i := range l {
		s := &l[i]
		s.Name = strings.Clone(s.Name)
		s.Names = copyNames(s.Names)
		s.Exprs = copyExprs(s.Exprs)
		s.Args = copyExprs(s.Args)
		s.Params = copyParams(s.Params)
		s.Body = copyStmts(s.Body)
		s.Else = copyStmts(s.Else)
		s.Final = copyStmts(s.Final)
		s.Handlers = copyHandlers(s.Handlers)
		s.Items = copyItems(s.Items)
		s.Cases = copyCases(s.Cases)
	}
	return l
}

func copyHandlers(l []api.Handler) []api.Handler {
	l = slices.Clone(l)
	for i := range l {
		l[i].Name = strings.Clone(l[i].Name)
		l[i].Exprs = copyExprs(l[i].Exprs)
		l[i].Body = copyStmts(l[i].Body)
	}
	return l
}

func copyItems(l []api.Item) []api.Item {
	l = slices.Clone(l)
	for i := range l {
		l[i].Value = copyExpr(l[i].Value)
		l[i].Target = copyExprs(l[i].Target)
	}
	return l
}

func copyCases(l []api.Case) []api.Case {
	l = slices.Clone(l)
	for i := range l {
		l[i].Pattern = copyPattern(l[i].Pattern)
		l[i].Guard = copyExprs(l[i].Guard)
		l[i].Body = copyStmts(l[i].Body)
	}
	return l
}

func copyPattern(p api.Pattern) api.Pattern {
	p.Name = strings.Clone(p.Name)
	p.Names = copyNames(p.Names)
	p.Exprs = copyExprs(p.Exprs)
	p.Subs = slices.Clone(p.Subs)
	for i := range p.Subs {
		p.Subs[i] = copyPattern(p.Subs[i])
	}
	return p
}

func copyParams(l []api.Param) []api.Param {
	l = slices.Clone(l)
	for i := range l {
		l[i].Name = strings.Clone(l[i].Name)
		l[i].Default = copyExprs(l[i].Default)
	}
	return l
}

func copyNames(l []string) []string {
	l = slices.Clone(l)
	for i := range l {
		l[i] = strings.Clone(l[i])
	}
	return l
}
