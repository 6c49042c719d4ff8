package tree

import (
	"slices"
	"strings"

	"brindlewood/api"
	"brindlewood/literal"
)

// hasLine reports whether an expression has the line that it should have.
func hasLine(e *api.Expr) bool {
	if e.Kind == api.ExprNone {
		return e.Line == 0
	}
	return isLine(e.Line)
}

// isFormedExpr reports whether an expression uses its fields as its kind demands, wherever it stands, apart from the texts of names and from parameters.
func isFormedExpr(e *api.Expr) bool {
	return fitArgs(e.Kind, len(e.Args)) && fitsOp(e) && fitOps(e) && fitsConst(e) && fitsName(e) &&
		(e.Kind == api.ExprFn || len(e.Params) == 0) && fitLoops(e) &&
		(e.Kind != api.ExprFormat || areSeparate(e.Args))
}

// fitArgs reports whether an expression of a kind may have a number of Args.
func fitArgs(kind, count int) bool {
	switch kind {
	case api.ExprConst, api.ExprName, api.ExprSuper, api.ExprNone:
		return count == 0
	case api.ExprTuple, api.ExprList, api.ExprDict, api.ExprFormat:
		return true
	case api.ExprSet, api.ExprCall:
		return count >= 1
	case api.ExprPair, api.ExprBinary, api.ExprAnd, api.ExprOr, api.ExprIndex:
		return count == 2
	case api.ExprCompare:
		return count >= 2
	case api.ExprIf, api.ExprSlice:
		return count == 3
	case api.ExprYield:
		return count <= 1
	}
	return count == 1
}

func fitsOp(e *api.Expr) bool {
	switch e.Kind {
	case api.ExprUnary:
		return api.OpNeg <= e.Op && e.Op <= api.OpNot
	case api.ExprBinary:
		return isBinary(e.Op)
	case api.ExprField:
		return e.Op == 0 || e.Op == 'r' || e.Op == 's'
	case api.ExprLoops:
		return isSequence(e.Op) || e.Op == api.ExprSet || e.Op == api.ExprDict
	}
	return e.Op == 0
}

func isBinary(op int) bool { return api.OpAdd <= op && op <= api.OpXor }

func fitOps(e *api.Expr) bool {
	if e.Kind != api.ExprCompare {
		return len(e.Ops) == 0
	}
	isNone := func(op int) bool { return op < api.CmpLess || op > api.CmpIsNot }
	return len(e.Ops) == len(e.Args)-1 && !slices.ContainsFunc(e.Ops, isNone)
}

func fitsConst(e *api.Expr) bool {
	if e.Kind != api.ExprConst {
		return isEmpty(e.Const)
	}
	_, fault := literal.Print(e.Const)
	return fault.Code == api.OK
}

// isEmpty reports whether all fields of a value are zero.
func isEmpty(v api.Value) bool {
	isZero := func(a api.Int) bool { return !a.Neg && len(a.Limbs) == 0 }
	return v.Kind == 0 && v.Ref == 0 && v.Text == "" && isZero(v.Num) && isZero(v.Den)
}

// fitsName reports whether the Name of an expression is empty, unless it should be a name, or, for an ExprField, a specification.
func fitsName(e *api.Expr) bool {
	switch e.Kind {
	case api.ExprName, api.ExprNamed, api.ExprAttr:
		return true
	case api.ExprField:
		_, fault := literal.Join([]api.FieldPart{{Field: true, Text: "x", Spec: e.Name}})
		return fault.Code == api.OK
	}
	return e.Name == ""
}

func fitLoops(e *api.Expr) bool {
	if e.Kind != api.ExprLoops {
		return len(e.Loops) == 0
	}
	return len(e.Loops) > 0 && (e.Args[0].Kind == api.ExprPair) == (e.Op == api.ExprDict)
}

// areSeparate reports whether no two constants follow each other.
func areSeparate(segments []api.Expr) bool {
	wasConst := false
	for i := range segments {
		isConst := segments[i].Kind == api.ExprConst
		if wasConst && isConst {
			return false
		}
		wasConst = isConst
	}
	return true
}

// fitsPlace reports whether an expression is as its place demands.
func fitsPlace(e *api.Expr, at place) bool {
	switch {
	case at == atSegment && e.Kind == api.ExprConst:
		return e.Const.Kind == api.KindText && e.Const.Text != ""
	case at == atConstant && e.Kind == api.ExprUnary:
		return e.Op == api.OpNeg && isNumber(&e.Args[0])
	case at.isTarget() && isSequence(e.Kind):
		return countKind(e.Args, api.ExprStar) <= 1
	}
	return true
}

func isNumber(e *api.Expr) bool {
	return e.Kind == api.ExprConst && (e.Const.Kind == api.KindInt || e.Const.Kind == api.KindRatio)
}

// fitsField reports whether an expression, if it is a constant, has a literal that can be written in an ExprField.
func fitsField(e *api.Expr) bool {
	if e.Kind != api.ExprConst {
		return true
	}
	text, _ := literal.Print(e.Const)
	return !strings.Contains(text, `\`) && !strings.ContainsAny(e.Const.Text, `"'#`)
}

// countKind returns how many of some expressions have a kind.
func countKind(l []api.Expr, kind int) int {
	count := 0
	for i := range l {
		if l[i].Kind == kind {
			count++
		}
	}
	return count
}
