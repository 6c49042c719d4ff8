package tree

import (
	"brindlewood/api"
)

// place is a place of an expression.
type place int

const (
	atValue place = iota
	atElement
	atArgument
	atItem
	atSubscript
	atPart
	atSegment
	atTarget
	atInnerTarget
	atSimpleTarget
	atConstant
	atDotted // that of a class, and of what is in an ExprAttr there or at the place of a constant
)

// permits reports whether an expression of a kind may stand at a place.
func (p place) permits(kind int) bool {
	switch p {
	case atElement:
		return isValue(kind) || kind == api.ExprStar
	case atArgument:
		return isValue(kind) || kind == api.ExprStar || kind == api.ExprNamed || kind == api.ExprPairs
	case atItem:
		return kind == api.ExprPair || kind == api.ExprPairs
	case atSubscript:
		return isValue(kind) || kind == api.ExprSlice
	case atPart:
		return isValue(kind) || kind == api.ExprNone
	case atSegment:
		return kind == api.ExprConst || kind == api.ExprField
	case atTarget:
		return isSimpleTarget(kind) || isSequence(kind)
	case atInnerTarget:
		return isSimpleTarget(kind) || isSequence(kind) || kind == api.ExprStar
	case atSimpleTarget:
		return isSimpleTarget(kind)
	case atConstant:
		return kind == api.ExprConst || kind == api.ExprUnary || kind == api.ExprAttr
	case atDotted:
		return kind == api.ExprName || kind == api.ExprAttr
	}
	return isValue(kind)
}

// isTarget reports whether a tuple or list at a place consists of targets.
func (p place) isTarget() bool { return p == atTarget || p == atInnerTarget }

func isValue(kind int) bool {
	switch kind {
	case api.ExprPair, api.ExprPairs, api.ExprStar, api.ExprNamed, api.ExprSlice, api.ExprNone, api.ExprField:
		return false
	}
	return api.ExprConst <= kind && kind <= api.ExprAwait
}

func isSimpleTarget(kind int) bool {
	return kind == api.ExprName || kind == api.ExprAttr || kind == api.ExprIndex
}

func isSequence(kind int) bool {
	return kind == api.ExprTuple || kind == api.ExprList
}

// placeInStmt is the place of one of Exprs of a statement.
func placeInStmt(s *api.Stmt, i int) place {
	switch s.Kind {
	case api.StmtAssign:
		if i < len(s.Exprs)-1 {
			return atTarget
		}
	case api.StmtFor:
		if i == 0 {
			return atTarget
		}
	case api.StmtAugment:
		if i == 0 {
			return atSimpleTarget
		}
	case api.StmtDel:
		return atSimpleTarget
	}
	return atValue
}

// placeInExpr is the place of one of Args of an expression that stands at a place itself.
func placeInExpr(e *api.Expr, at place, i int) place {
	switch e.Kind {
	case api.ExprTuple, api.ExprList:
		if at.isTarget() {
			return atInnerTarget
		}
		return atElement
	case api.ExprSet:
		return atElement
	case api.ExprStar:
		if at == atInnerTarget {
			return atTarget
		}
	case api.ExprAttr:
		if at == atConstant || at == atDotted {
			return atDotted
		}
	case api.ExprDict:
		return atItem
	case api.ExprLoops:
		if e.Op == api.ExprDict {
			return atItem
		}
	case api.ExprCall:
		if i > 0 {
			return atArgument
		}
	case api.ExprIndex:
		if i == 1 {
			return atSubscript
		}
	case api.ExprSlice:
		return atPart
	case api.ExprFormat:
		return atSegment
	}
	return atValue
}
