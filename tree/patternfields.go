package tree

import (
	"brindlewood/api"
)

// isFormedPattern reports whether a pattern uses its fields as its kind demands, apart from the texts of names.
func isFormedPattern(p *api.Pattern) bool {
	return fitPatternExprs(p) && fitSubs(p) && (p.Name == "" || hasCapture(p.Kind)) &&
		(len(p.Names) == 0 || p.Kind == api.PatClass)
}

func fitPatternExprs(p *api.Pattern) bool {
	switch p.Kind {
	case api.PatValue, api.PatClass:
		return len(p.Exprs) == 1
	case api.PatMapping:
		return len(p.Exprs) == len(p.Subs)
	}
	return len(p.Exprs) == 0
}

func fitSubs(p *api.Pattern) bool {
	switch p.Kind {
	case api.PatSequence:
		return countStars(p.Subs) <= 1
	case api.PatMapping:
		return true
	case api.PatClass:
		return len(p.Subs) >= len(p.Names)
	case api.PatOr:
		return len(p.Subs) >= 2
	case api.PatAs:
		return len(p.Subs) == 1
	}
	return len(p.Subs) == 0
}

// hasCapture reports whether a pattern of a kind can have a Name.
func hasCapture(kind int) bool {
	return kind == api.PatCapture || kind == api.PatAs || kind == api.PatStar || kind == api.PatMapping
}

func countStars(l []api.Pattern) int {
	count := 0
	for i := range l {
		if l[i].Kind == api.PatStar {
			count++
		}
	}
	return count
}
