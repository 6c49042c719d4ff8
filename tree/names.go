package tree

import (
	"slices"
	"strings"

	"brindlewood/api"
)

// isWord reports whether a text consists of letters and digits, and begins with a letter.
func isWord(s string) bool {
	isOther := func(char rune) bool { return !isLetter(char) && !isDigit(char) }
	return s != "" && !isDigit(rune(s[0])) && !strings.ContainsFunc(s, isOther)
}

func isLetter(char rune) bool {
	return 'a' <= char && char <= 'z' || 'A' <= char && char <= 'Z' || char == '_'
}

func isDigit(char rune) bool {
	return '0' <= char && char <= '9'
}

// areNames reports whether all of some texts are names.
func areNames(l []string) bool {
	return !slices.ContainsFunc(l, func(s string) bool { return !Name(s) })
}

// areDistinct reports whether no text occurs twice.
func areDistinct(l []string) bool {
	seen := map[string]bool{}
	for _, s := range l {
		if seen[s] {
			return false
		}
		seen[s] = true
	}
	return true
}

// isCapture reports whether a text is a name that a pattern can give to what it matches.
func isCapture(s string) bool { return s != "_" && Name(s) }

// hasStmtNames reports whether the texts of a statement that should be names are names.
func hasStmtNames(s *api.Stmt) bool {
	switch s.Kind {
	case api.StmtImport, api.StmtFrom:
		return Dotted(s.Name) && areNames(s.Names)
	case api.StmtGlobal, api.StmtOuter:
		return areNames(s.Names)
	case api.StmtDef, api.StmtClass:
		return Name(s.Name)
	}
	isWrong := func(h api.Handler) bool { return h.Name != "" && !Name(h.Name) }
	return !slices.ContainsFunc(s.Handlers, isWrong)
}

// hasExprName reports whether the Name of an expression is a name, if it should be one.
func hasExprName(e *api.Expr) bool {
	switch e.Kind {
	case api.ExprName, api.ExprNamed, api.ExprAttr:
		return Name(e.Name)
	}
	return true
}

// hasPatternNames reports whether the texts of a pattern that should be names are names.
func hasPatternNames(p *api.Pattern) bool {
	switch p.Kind {
	case api.PatCapture, api.PatAs:
		return isCapture(p.Name)
	case api.PatStar, api.PatMapping:
		return p.Name == "" || isCapture(p.Name)
	}
	return areNames(p.Names)
}
