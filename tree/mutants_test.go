package tree_test

import (
	"reflect"
	"strings"

	"brindlewood/api"
)

// What is put into the fields of trees.
var (
	integers = map[string][]int{
		"Kind": {minInt, -1, 0, 1, 2, 3, 4, 5, 6, 7, 8, 9, 10, 11, 12, 13, 14, 15, 16, 17, 18, 19, 20, 21, 22, 23, 24, 25, 26, 27, 28, 29, 30, maxInt},
		"Line": {minInt, -1, 0, 1, 2, api.MaxSource, api.MaxSource + 1, maxInt},
		"Op":   {minInt, -1, 0, 1, 2, 3, 4, 5, 6, 7, 8, 16, 17, 'r', 's', 's' + 256, maxInt},
		"Ref":  {-1, 0, 1, 2},
		"Ops":  {minInt, -1, 0, 1, 2, 10, 11, maxInt},
	}
	limbs = []uint32{0, 1, 2, 3, 5, 1<<32 - 1}
	texts = []string{"", "_", "a", "b", "n", "if", "a.b", "a.if", "é", "a b", "\n", "#", "'", "\"", `\`, ">5", "{", "\xff", strings.Repeat("a", api.MaxName), strings.Repeat("a", api.MaxName+1)}
)

// mutate makes many small changes to a value, one after another, calls a function after each of them, and takes it back. The last name of the path is that of the field in which the value is.
func mutate(v reflect.Value, path []string, visit func(path []string)) {
	before := reflect.New(v.Type()).Elem()
	before.Set(v)
	try := func(value any) {
		v.Set(reflect.ValueOf(value).Convert(v.Type()))
		visit(path)
		v.Set(before)
	}
	switch v.Interface().(type) {
	case int:
		for _, n := range integers[path[len(path)-1]] {
			try(n)
		}
	case uint32:
		for _, n := range limbs {
			try(n)
		}
	case string:
		for _, s := range texts {
			try(s)
		}
	case bool:
		try(!v.Bool())
	case api.Expr:
		for kind := api.ExprConst; kind <= api.ExprAwait; kind++ {
			try(sampleExpr(kind))
		}
	case api.Stmt:
		for kind := api.StmtExpr; kind <= api.StmtMatch; kind++ {
			try(sampleStmt(kind))
		}
	case api.Pattern:
		for kind := api.PatWild; kind <= api.PatAs; kind++ {
			try(samplePattern(kind))
		}
	}
	switch v.Kind() {
	case reflect.Slice:
		for _, l := range otherLists(v) {
			try(l.Interface())
		}
		for i := range v.Len() {
			mutate(v.Index(i), path, visit)
		}
	case reflect.Struct:
		for i := range v.NumField() {
			mutate(v.Field(i), append(path[:len(path):len(path)], v.Type().Field(i).Name), visit)
		}
	}
}

// otherLists are lists that differ from a list by few elements.
func otherLists(v reflect.Value) []reflect.Value {
	n := v.Len()
	clone := func() reflect.Value { return reflected(v, 0) }
	l := []reflect.Value{reflect.Zero(v.Type()), reflect.Append(clone(), reflect.Zero(v.Type().Elem()))}
	for _, more := range furtherElements(v.Type().Elem()) {
		l = append(l, reflect.Append(clone(), reflect.ValueOf(more)))
		if n > 0 {
			l = append(l, reflect.AppendSlice(reflect.Append(reflect.Zero(v.Type()), reflect.ValueOf(more)), clone()))
		}
	}
	if n > 0 {
		l = append(l, clone().Slice(0, n-1), clone().Slice(1, n), reflect.Append(clone(), v.Index(n-1)))
	}
	if n > 1 {
		turned := clone()
		turned.Index(0).Set(v.Index(n - 1))
		turned.Index(n - 1).Set(v.Index(0))
		l = append(l, turned)
	}
	return l
}

// furtherElements are elements that can be put into a list.
func furtherElements(of reflect.Type) []any {
	switch of {
	case reflect.TypeFor[string]():
		return []any{"a", "n", "if"}
	case reflect.TypeFor[uint32]():
		return []any{uint32(0), uint32(1)}
	case reflect.TypeFor[int]():
		return []any{0, api.CmpIn}
	case reflect.TypeFor[api.Param]():
		return []any{param(api.ParamPlain, "a"), param(api.ParamPlain, "x", name("a")), param(api.ParamStar, "y"), param(api.ParamStar, ""), param(api.ParamOnly, "z"), param(api.ParamPairs, "u")}
	case reflect.TypeFor[api.Expr]():
		return []any{name("a"), expr(api.ExprStar, name("a")), named("n", name("a")), expr(api.ExprPairs, name("a")), expr(api.ExprPair, name("a"), name("b")), text("t"), none(), expr(api.ExprTuple)}
	case reflect.TypeFor[api.Pattern]():
		return []any{samplePattern(api.PatStar), samplePattern(api.PatValue)}
	case reflect.TypeFor[api.Stmt]():
		return []any{stmt(api.StmtBreak), stmt(api.StmtReturn), pass(), declare(api.StmtOuter, "x")}
	case reflect.TypeFor[api.Handler]():
		return []any{handler("", nil, pass()), handler("n", list(name("a")), pass())}
	case reflect.TypeFor[api.Item]():
		return []any{item(name("a")), item(name("a"), name("b"))}
	case reflect.TypeFor[api.Case]():
		return []any{option(pattern(api.PatWild), nil, pass())}
	}
	return []any{loop(name("a"), name("b"))}
}

// forMutants calls a function with each sample after each small change; the last one of the path is the field that was changed.
func forMutants(visit func(original, mutant []api.Stmt, path []string)) {
	for _, l := range samples() {
		mutant := clone(l)
		mutate(reflect.ValueOf(&mutant).Elem(), []string{"tree"}, func(path []string) { visit(l, mutant, path) })
	}
}
