package tree

import (
	"brindlewood/api"
)

// What something stands directly in.
const (
	inModule = iota
	inClass
	inDef
	inAsync // a StmtDef that is Async
	inFn
	inLoops
)

// context is what decides, beside its place, whether something may stand somewhere.
type context struct {
	scope   int
	loop    bool // it may leave a loop
	returns bool // it may leave a StmtDef
	method  bool // it stands directly in a function that has super
	field   bool // it stands in an ExprField
}

func (in context) permitsStmt(kind int) bool {
	switch kind {
	case api.StmtBreak, api.StmtContinue:
		return in.loop
	case api.StmtReturn:
		return in.returns
	case api.StmtOuter:
		return in.scope == inDef || in.scope == inAsync
	}
	return true
}

func (in context) permitsExpr(kind int) bool {
	switch kind {
	case api.ExprYield, api.ExprFrom:
		return in.scope == inDef || in.scope == inFn
	case api.ExprAwait:
		return in.scope == inAsync
	case api.ExprSuper:
		return in.method
	}
	return true
}

// body is the context of the Body of a statement.
func (in context) body(s *api.Stmt) context {
	switch s.Kind {
	case api.StmtWhile, api.StmtFor:
		in.loop = true
	case api.StmtClass:
		return context{scope: inClass}
	case api.StmtDef:
		scope := inDef
		if s.Async {
			scope = inAsync
		}
		return context{scope: scope, returns: true, method: in.hasSuper(s.Params)}
	}
	return in
}

// handler is the context of the Body of a handler of a statement.
func (in context) handler(s *api.Stmt) context {
	if s.Op == 1 {
		in.loop, in.returns = false, false
	}
	return in
}

// within is the context of what is in an expression, apart from the defaults of its parameters and Iter of its first loop.
func (in context) within(e *api.Expr) context {
	switch e.Kind {
	case api.ExprFn:
		return context{scope: inFn, method: in.hasSuper(e.Params), field: in.field}
	case api.ExprLoops:
		return context{scope: inLoops, field: in.field}
	case api.ExprField:
		in.field = true
	}
	return in
}

// hasSuper reports whether a function with given parameters has super.
func (in context) hasSuper(params []api.Param) bool {
	return in.scope == inClass && len(params) > 0 && params[0].Kind == api.ParamPlain
}
