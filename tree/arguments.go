package tree

import (
	"brindlewood/api"
)

// namesOfArguments returns the names of the arguments that are given by name.
func namesOfArguments(args []api.Expr) []string {
	var names []string
	for i := range args {
		if args[i].Kind == api.ExprNamed {
			names = append(names, args[i].Name)
		}
	}
	return names
}

// areOrdered reports whether the arguments that are given by name come behind all others.
func areOrdered(args []api.Expr) bool {
	wasNamed := false
	for i := range args {
		isNamed := args[i].Kind == api.ExprNamed || args[i].Kind == api.ExprPairs
		if wasNamed && !isNamed {
			return false
		}
		wasNamed = isNamed
	}
	return true
}

// errorOfParams returns the code of the first error of parameters, or OK.
func errorOfParams(l []api.Param) int {
	var names []string
	for i := range l {
		if code := errorOfParam(&l[i]); code != api.OK {
			return code
		}
		// A star without a name has none that could be equal to another one.
		if l[i].Name != "" {
			names = append(names, l[i].Name)
		}
	}
	switch {
	case len(l) > api.MaxParams:
		return api.ErrTooLarge
	case !areDistinct(names):
		return api.ErrRepeated
	case !areOrderedParams(l):
		return api.ErrOrder
	}
	return api.OK
}

// errorOfParam returns the code of the error of a parameter by itself, or OK.
func errorOfParam(p *api.Param) int {
	mayHaveDefault := p.Kind == api.ParamPlain || p.Kind == api.ParamOnly
	mayLackName := p.Kind == api.ParamStar
	switch {
	case p.Kind < api.ParamPlain || p.Kind > api.ParamPairs:
		return api.ErrForm
	case len(p.Default) > 1 || len(p.Default) == 1 && !mayHaveDefault:
		return api.ErrForm
	case !Name(p.Name) && !(p.Name == "" && mayLackName):
		return api.ErrName
	}
	return api.OK
}

// areOrderedParams reports whether parameters may follow each other as they do.
func areOrderedParams(l []api.Param) bool {
	stars := 0
	for i := range l {
		switch l[i].Kind {
		case api.ParamPlain:
			// What is ahead of the one before has been compared with that one.
			if i > 0 && (l[i-1].Kind != api.ParamPlain || len(l[i-1].Default) > len(l[i].Default)) {
				return false
			}
		case api.ParamStar:
			stars++
			isFollowed := i+1 < len(l) && l[i+1].Kind == api.ParamOnly
			if stars > 1 || l[i].Name == "" && !isFollowed {
				return false
			}
		case api.ParamOnly:
			if stars == 0 {
				return false
			}
		case api.ParamPairs:
			if i+1 < len(l) {
				return false
			}
		}
	}
	return true
}
