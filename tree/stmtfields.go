package tree

import (
	"slices"

	"brindlewood/api"
)

// isLine reports whether a number is that of a line.
func isLine(line int) bool { return 1 <= line && line <= api.MaxSource }

// isFormedStmt reports whether a statement uses its fields as its kind demands, apart from the texts of names and from parameters.
func isFormedStmt(s *api.Stmt) bool {
	isDef, isClass, isTry := s.Kind == api.StmtDef, s.Kind == api.StmtClass, s.Kind == api.StmtTry
	return fitStmtExprs(s.Kind, len(s.Exprs)) && fitsStmtOp(s) &&
		(s.Name == "" || hasName(s.Kind)) && fitNames(s.Kind, len(s.Names)) &&
		(isDef || len(s.Params) == 0 && !s.Async) && (isClass || len(s.Args) == 0) && areForClass(s.Args) &&
		(len(s.Body) > 0) == hasBody(s.Kind) && (hasElse(s.Kind) || len(s.Else) == 0) &&
		(len(s.Items) > 0) == (s.Kind == api.StmtWith) && areFormedItems(s.Items) &&
		(len(s.Cases) > 0) == (s.Kind == api.StmtMatch) && areFormedCases(s.Cases) &&
		(isTry || len(s.Handlers) == 0 && len(s.Final) == 0) && (!isTry || isFormedTry(s))
}

// fitStmtExprs reports whether a statement of a kind may have a number of Exprs.
func fitStmtExprs(kind, count int) bool {
	switch kind {
	case api.StmtExpr, api.StmtIf, api.StmtWhile, api.StmtMatch:
		return count == 1
	case api.StmtAssign:
		return count >= 2
	case api.StmtAugment, api.StmtFor:
		return count == 2
	case api.StmtDel:
		return count >= 1
	case api.StmtReturn:
		return count <= 1
	case api.StmtRaise:
		return count <= 2
	case api.StmtAssert:
		return count == 1 || count == 2
	case api.StmtDef, api.StmtClass:
		return true
	}
	return count == 0
}

func fitsStmtOp(s *api.Stmt) bool {
	switch s.Kind {
	case api.StmtAugment:
		return isBinary(s.Op)
	case api.StmtTry:
		return s.Op == 0 || s.Op == 1
	}
	return s.Op == 0
}

func hasName(kind int) bool {
	return kind == api.StmtImport || kind == api.StmtFrom || kind == api.StmtDef || kind == api.StmtClass
}

// fitNames reports whether a statement of a kind may have a number of Names.
func fitNames(kind, count int) bool {
	switch kind {
	case api.StmtGlobal, api.StmtOuter:
		return count >= 1
	case api.StmtImport:
		return count <= 1
	case api.StmtFrom:
		return count >= 2 && count%2 == 0
	}
	return count == 0
}

// areForClass reports whether a class may have some arguments.
func areForClass(args []api.Expr) bool {
	return countKind(args, api.ExprStar) == 0 && countKind(args, api.ExprPairs) == 0
}

func hasBody(kind int) bool { return kind >= api.StmtIf && kind != api.StmtMatch }

func hasElse(kind int) bool {
	return kind == api.StmtIf || kind == api.StmtWhile || kind == api.StmtFor || kind == api.StmtTry
}

func areFormedItems(l []api.Item) bool {
	return !slices.ContainsFunc(l, func(i api.Item) bool { return len(i.Target) > 1 })
}

func areFormedCases(l []api.Case) bool {
	isFormed := func(c api.Case) bool { return len(c.Guard) <= 1 && len(c.Body) > 0 && isLine(c.Line) }
	return !slices.ContainsFunc(l, func(c api.Case) bool { return !isFormed(c) })
}

// isFormedTry reports whether a StmtTry has handlers or Final as it should.
func isFormedTry(s *api.Stmt) bool {
	if len(s.Handlers) == 0 {
		return s.Op == 0 && len(s.Else) == 0 && len(s.Final) > 0
	}
	for i, h := range s.Handlers {
		if len(h.Exprs) > 1 || len(h.Body) == 0 || !isLine(h.Line) {
			return false
		}
		isLast := i == len(s.Handlers)-1
		if len(h.Exprs) == 0 && (h.Name != "" || !isLast || s.Op == 1) {
			return false
		}
	}
	return true
}
