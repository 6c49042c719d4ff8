package tree_test

import (
	"reflect"
	"regexp"
	"slices"
	"strconv"
	"strings"

	"brindlewood/api"
	"brindlewood/literal"
)

// entry is a node, with the way to it.
type entry struct {
	stmt    *api.Stmt
	expr    *api.Expr
	pattern *api.Pattern
	up      *entry // the node that contains it
	role    string // the list of that node in which it stands
	index   int    // its position there
	outer   int    // the number of the handler, item, case, parameter or loop that has this list
	level   int
}

// flattener lists the nodes of a tree in order, up to one more than permitted.
type flattener struct{ nodes []*entry }

func flatten(l []api.Stmt) []*entry {
	f := flattener{}
	f.stmts(nil, "", 0, l)
	return f.nodes
}

func (f *flattener) full() bool { return len(f.nodes) > api.MaxNodes }

func (f *flattener) add(n entry) *entry {
	n.level = 1
	if up := n.up; up != nil && (n.stmt != nil || n.expr != nil && up.expr != nil || n.pattern != nil && up.pattern != nil) {
		n.level = up.level + 1
	}
	f.nodes = append(f.nodes, &n)
	return &n
}

func (f *flattener) stmts(up *entry, role string, outer int, l []api.Stmt) {
	for i := range l {
		if f.full() {
			return
		}
		s := &l[i]
		n := f.add(entry{stmt: s, up: up, role: role, index: i, outer: outer})
		f.exprs(n, "Exprs", 0, s.Exprs)
		f.exprs(n, "Args", 0, s.Args)
		for j, p := range s.Params {
			f.exprs(n, "Default", j, p.Default)
		}
		for j := range s.Items {
			f.one(n, "Value", j, 0, &s.Items[j].Value)
			f.exprs(n, "Target", j, s.Items[j].Target)
		}
		for j := range s.Handlers {
			f.exprs(n, "HandlerExprs", j, s.Handlers[j].Exprs)
			f.stmts(n, "HandlerBody", j, s.Handlers[j].Body)
		}
		for j := range s.Cases {
			f.pattern(n, "Pattern", j, 0, &s.Cases[j].Pattern)
			f.exprs(n, "Guard", j, s.Cases[j].Guard)
			f.stmts(n, "CaseBody", j, s.Cases[j].Body)
		}
		f.stmts(n, "Body", 0, s.Body)
		f.stmts(n, "Else", 0, s.Else)
		f.stmts(n, "Final", 0, s.Final)
	}
}

func (f *flattener) exprs(up *entry, role string, outer int, l []api.Expr) {
	for i := range l {
		f.one(up, role, outer, i, &l[i])
	}
}

func (f *flattener) one(up *entry, role string, outer, i int, e *api.Expr) {
	if f.full() {
		return
	}
	n := f.add(entry{expr: e, up: up, role: role, index: i, outer: outer})
	f.exprs(n, "Args", 0, e.Args)
	for j, p := range e.Params {
		f.exprs(n, "Default", j, p.Default)
	}
	for j := range e.Loops {
		f.one(n, "Target", j, 0, &e.Loops[j].Target)
		f.one(n, "Iter", j, 0, &e.Loops[j].Iter)
		f.exprs(n, "Conds", j, e.Loops[j].Conds)
	}
}

func (f *flattener) pattern(up *entry, role string, outer, i int, p *api.Pattern) {
	if f.full() {
		return
	}
	n := f.add(entry{pattern: p, up: up, role: role, index: i, outer: outer})
	f.exprs(n, "Exprs", 0, p.Exprs)
	for j := range p.Subs {
		f.pattern(n, "Subs", 0, j, &p.Subs[j])
	}
}

// What kinds use: fields with the least and the greatest number of their elements.
var (
	stmtUses = map[int]string{
		api.StmtExpr:     "Exprs=1-1",
		api.StmtAssign:   "Exprs=2-",
		api.StmtAugment:  "Exprs=2-2 Op",
		api.StmtDel:      "Exprs=1-",
		api.StmtPass:     "",
		api.StmtBreak:    "",
		api.StmtContinue: "",
		api.StmtReturn:   "Exprs=0-1",
		api.StmtRaise:    "Exprs=0-2",
		api.StmtAssert:   "Exprs=1-2",
		api.StmtGlobal:   "Names=1-",
		api.StmtOuter:    "Names=1-",
		api.StmtImport:   "Name Names=0-1",
		api.StmtFrom:     "Name Names=2-",
		api.StmtIf:       "Exprs=1-1 Body=1- Else=0-",
		api.StmtWhile:    "Exprs=1-1 Body=1- Else=0-",
		api.StmtFor:      "Exprs=2-2 Body=1- Else=0-",
		api.StmtTry:      "Op Body=1- Handlers=0- Else=0- Final=0-",
		api.StmtWith:     "Items=1- Body=1-",
		api.StmtDef:      "Name Params=0- Exprs=0- Body=1- Async",
		api.StmtClass:    "Name Exprs=0- Args=0- Body=1-",
		api.StmtMatch:    "Exprs=1-1 Cases=1-",
	}
	exprUses = map[int]string{
		api.ExprConst:   "Const",
		api.ExprName:    "Name",
		api.ExprSuper:   "",
		api.ExprTuple:   "Args=0-",
		api.ExprList:    "Args=0-",
		api.ExprSet:     "Args=1-",
		api.ExprDict:    "Args=0-",
		api.ExprPair:    "Args=2-2",
		api.ExprPairs:   "Args=1-1",
		api.ExprStar:    "Args=1-1",
		api.ExprNamed:   "Name Args=1-1",
		api.ExprUnary:   "Op Args=1-1",
		api.ExprBinary:  "Op Args=2-2",
		api.ExprAnd:     "Args=2-2",
		api.ExprOr:      "Args=2-2",
		api.ExprCompare: "Ops=1- Args=2-",
		api.ExprIf:      "Args=3-3",
		api.ExprAttr:    "Name Args=1-1",
		api.ExprIndex:   "Args=2-2",
		api.ExprSlice:   "Args=3-3",
		api.ExprNone:    "",
		api.ExprCall:    "Args=1-",
		api.ExprFn:      "Params=0- Args=1-1",
		api.ExprFormat:  "Args=0-",
		api.ExprField:   "Op Name Args=1-1",
		api.ExprLoops:   "Op Args=1-1 Loops=1-",
		api.ExprYield:   "Args=0-1",
		api.ExprFrom:    "Args=1-1",
		api.ExprAwait:   "Args=1-1",
	}
	patternUses = map[int]string{
		api.PatWild:     "",
		api.PatCapture:  "Name",
		api.PatValue:    "Exprs=1-1",
		api.PatSequence: "Subs=0-",
		api.PatStar:     "Name",
		api.PatMapping:  "Name Exprs=0- Subs=0-",
		api.PatClass:    "Exprs=1-1 Names=0- Subs=0-",
		api.PatOr:       "Subs=2-",
		api.PatAs:       "Name Subs=1-1",
	}
)

// fieldsFit reports whether a node uses the fields that are stated, and no others.
func fieldsFit(node any, uses string) bool {
	v := reflect.ValueOf(node).Elem()
	for i := range v.NumField() {
		fieldName := v.Type().Field(i).Name
		if fieldName == "Kind" || fieldName == "Line" {
			continue
		}
		use := ""
		for _, u := range strings.Fields(uses) {
			if u == fieldName || strings.HasPrefix(u, fieldName+"=") {
				use = u
			}
		}
		if v.Field(i).Kind() != reflect.Slice {
			if use == "" && !same(v.Field(i).Interface(), reflect.Zero(v.Field(i).Type()).Interface()) {
				return false
			}
			continue
		}
		least, most := 0, 0
		if _, bounds, found := strings.Cut(use, "="); found {
			from, to, _ := strings.Cut(bounds, "-")
			least, _ = strconv.Atoi(from)
			if most, _ = strconv.Atoi(to); to == "" {
				most = maxInt
			}
		}
		if n := v.Field(i).Len(); n < least || n > most {
			return false
		}
	}
	return true
}

// wantFault returns the fault of a tree.
func wantFault(l []api.Stmt) api.Fault {
	for number, n := range flatten(l) {
		for _, rule := range []func(*entry, int) int{limits, kinds, lines, fields, nameRule, arguments, parameters, states} {
			if code := rule(n, number); code != api.OK {
				return fault(code, number)
			}
		}
	}
	return noFault
}

// when returns a code if something holds.
func when(holds bool, code int) int {
	if holds {
		return code
	}
	return api.OK
}

func limits(n *entry, number int) int {
	if number >= api.MaxNodes {
		return api.ErrTooMany
	}
	return when(n.level > api.MaxDepth || n.stmt != nil && n.level > api.MaxNesting, api.ErrDepth)
}

var (
	nonValues     = []int{api.ExprPair, api.ExprPairs, api.ExprStar, api.ExprNamed, api.ExprSlice, api.ExprNone, api.ExprField}
	simpleTargets = []int{api.ExprName, api.ExprAttr, api.ExprIndex}
	targets       = []int{api.ExprName, api.ExprAttr, api.ExprIndex, api.ExprTuple, api.ExprList}
)

// valuesAnd are the kinds of values, and others.
func valuesAnd(others ...int) []int {
	for kind := api.ExprConst; kind <= api.ExprAwait; kind++ {
		if !slices.Contains(nonValues, kind) {
			others = append(others, kind)
		}
	}
	return others
}

// under reports whether an entry stands in a list of an expression of one of some kinds.
func (n *entry) under(role string, exprKinds ...int) bool {
	return n.role == role && n.up != nil && n.up.expr != nil && slices.Contains(exprKinds, n.up.expr.Kind)
}

// inStmt reports whether an entry stands in a list of a statement of a kind.
func (n *entry) inStmt(role string, kind int) bool {
	return n.role == role && n.up != nil && n.up.stmt != nil && n.up.stmt.Kind == kind
}

// inPattern reports whether an expression stands in a pattern of one of some kinds.
func (n *entry) inPattern(patternKinds ...int) bool {
	return n.up.pattern != nil && slices.Contains(patternKinds, n.up.pattern.Kind)
}

// isTarget reports whether the place of an expression is that of a target.
func (n *entry) isTarget() bool {
	return n.inStmt("Exprs", api.StmtAssign) && n.index < len(n.up.stmt.Exprs)-1 ||
		n.inStmt("Exprs", api.StmtFor) && n.index == 0 ||
		n.inStmt("Target", api.StmtWith) || n.under("Target", api.ExprLoops) ||
		n.under("Args", api.ExprStar) && n.up.isInner()
}

// isInner reports whether the place of an expression is that of an inner target.
func (n *entry) isInner() bool {
	return n.under("Args", api.ExprTuple, api.ExprList) && (n.up.isTarget() || n.up.isInner())
}

func (n *entry) isConstantPlace() bool { return n.inPattern(api.PatValue, api.PatMapping) }

// isReference reports whether the place of an expression is that of a class, or that of an ExprAttr there or at the place of a constant has it as its argument.
func (n *entry) isReference() bool {
	return n.inPattern(api.PatClass) || n.under("Args", api.ExprAttr) && (n.up.isConstantPlace() || n.up.isReference())
}

// allowed are the kinds of expressions that may stand where an entry stands.
func (n *entry) allowed() []int {
	switch {
	case n.isTarget():
		return targets
	case n.isInner():
		return append([]int{api.ExprStar}, targets...)
	case n.inStmt("Exprs", api.StmtAugment) && n.index == 0, n.inStmt("Exprs", api.StmtDel):
		return simpleTargets
	case n.isConstantPlace():
		return []int{api.ExprConst, api.ExprUnary, api.ExprAttr}
	case n.isReference():
		return []int{api.ExprName, api.ExprAttr}
	case n.under("Args", api.ExprTuple, api.ExprList, api.ExprSet):
		return valuesAnd(api.ExprStar)
	case n.under("Args", api.ExprCall) && n.index >= 1, n.inStmt("Args", api.StmtClass):
		return valuesAnd(api.ExprStar, api.ExprNamed, api.ExprPairs)
	case n.under("Args", api.ExprDict), n.under("Args", api.ExprLoops) && n.up.expr.Op == api.ExprDict:
		return []int{api.ExprPair, api.ExprPairs}
	case n.under("Args", api.ExprIndex) && n.index == 1:
		return valuesAnd(api.ExprSlice)
	case n.under("Args", api.ExprSlice):
		return valuesAnd(api.ExprNone)
	case n.under("Args", api.ExprFormat):
		return []int{api.ExprConst, api.ExprField}
	}
	return valuesAnd()
}

// inField reports whether an expression is in an ExprField.
func (n *entry) inField() bool {
	for up := n.up; up != nil; up = up.up {
		if up.expr != nil && up.expr.Kind == api.ExprField {
			return true
		}
	}
	return false
}

func kinds(n *entry, _ int) int {
	exists := true
	switch {
	case n.stmt != nil:
		_, exists = stmtUses[n.stmt.Kind]
	case n.pattern != nil:
		_, exists = patternUses[n.pattern.Kind]
		if n.pattern.Kind == api.PatStar {
			exists = n.up.pattern != nil && n.up.pattern.Kind == api.PatSequence
		}
	default:
		exists = slices.Contains(n.allowed(), n.expr.Kind) && !(n.expr.Kind == api.ExprFormat && n.inField())
	}
	return when(!exists, api.ErrKind)
}

func noLine(line int) bool { return line < 1 || line > api.MaxSource }

func lines(n *entry, _ int) int {
	switch {
	case n.stmt != nil:
		return when(noLine(n.stmt.Line), api.ErrRange)
	case n.pattern != nil:
		return when(noLine(n.pattern.Line), api.ErrRange)
	case n.expr.Kind == api.ExprNone:
		return when(n.expr.Line != 0, api.ErrRange)
	}
	return when(noLine(n.expr.Line), api.ErrRange)
}

func fields(n *entry, _ int) int {
	switch {
	case n.stmt != nil:
		return when(!fieldsFit(n.stmt, stmtUses[n.stmt.Kind]) || wrongStmt(n.stmt), api.ErrForm)
	case n.pattern != nil:
		return when(!fieldsFit(n.pattern, patternUses[n.pattern.Kind]) || wrongPattern(n.pattern), api.ErrForm)
	}
	return when(!fieldsFit(n.expr, exprUses[n.expr.Kind]) || wrongExpr(n.expr) || wrongAtPlace(n), api.ErrForm)
}

func isIn(n, least, most int) bool { return least <= n && n <= most }

func wrongStmt(s *api.Stmt) bool {
	switch s.Kind {
	case api.StmtAugment:
		return !isIn(s.Op, api.OpAdd, api.OpXor)
	case api.StmtFrom:
		return len(s.Names)%2 == 1
	case api.StmtClass:
		return slices.ContainsFunc(s.Args, func(e api.Expr) bool { return e.Kind == api.ExprStar || e.Kind == api.ExprPairs })
	case api.StmtWith:
		return slices.ContainsFunc(s.Items, func(i api.Item) bool { return len(i.Target) > 1 })
	case api.StmtMatch:
		return slices.ContainsFunc(s.Cases, func(c api.Case) bool { return len(c.Guard) > 1 || len(c.Body) == 0 || noLine(c.Line) })
	case api.StmtTry:
		n := len(s.Handlers)
		bare := func(h api.Handler) bool { return len(h.Exprs) == 0 }
		wrong := func(h api.Handler) bool {
			return len(h.Exprs) > 1 || len(h.Body) == 0 || noLine(h.Line) || bare(h) && (h.Name != "" || s.Op == 1)
		}
		if n == 0 {
			return s.Op != 0 || len(s.Else) > 0 || len(s.Final) == 0
		}
		return !isIn(s.Op, 0, 1) || slices.ContainsFunc(s.Handlers, wrong) || slices.ContainsFunc(s.Handlers[:n-1], bare)
	}
	return false
}

func wrongPattern(p *api.Pattern) bool {
	stars := 0
	for _, sub := range p.Subs {
		if sub.Kind == api.PatStar {
			stars++
		}
	}
	return p.Kind == api.PatSequence && stars > 1 || p.Kind == api.PatMapping && len(p.Exprs) != len(p.Subs) ||
		p.Kind == api.PatClass && len(p.Subs) < len(p.Names)
}

func wrongExpr(e *api.Expr) bool {
	switch e.Kind {
	case api.ExprConst:
		_, f := literal.Print(e.Const)
		return f != noFault
	case api.ExprUnary:
		return !isIn(e.Op, api.OpNeg, api.OpNot)
	case api.ExprBinary:
		return !isIn(e.Op, api.OpAdd, api.OpXor)
	case api.ExprField:
		parts, f := literal.Parts("f'{x:" + e.Name + "}'")
		accepted := f == noFault && len(parts) == 1 && parts[0].Spec == e.Name
		return e.Op != 0 && e.Op != 'r' && e.Op != 's' || !accepted
	case api.ExprLoops:
		return !isIn(e.Op, api.ExprTuple, api.ExprDict) || (e.Args[0].Kind == api.ExprPair) != (e.Op == api.ExprDict)
	case api.ExprCompare:
		return len(e.Ops)+1 != len(e.Args) || slices.ContainsFunc(e.Ops, func(op int) bool { return !isIn(op, api.CmpLess, api.CmpIsNot) })
	case api.ExprFormat:
		for i := 1; i < len(e.Args); i++ {
			if e.Args[i-1].Kind == api.ExprConst && e.Args[i].Kind == api.ExprConst {
				return true
			}
		}
	}
	return false
}

// wrongAtPlace reports whether an expression, whose fields are those of its kind, is wrong where it stands.
func wrongAtPlace(n *entry) bool {
	e := n.expr
	switch e.Kind {
	case api.ExprTuple, api.ExprList:
		stars := 0
		for _, a := range e.Args {
			if a.Kind == api.ExprStar {
				stars++
			}
		}
		return stars > 1 && (n.isTarget() || n.isInner())
	case api.ExprUnary:
		a := e.Args[0]
		isNumber := a.Kind == api.ExprConst && isIn(a.Const.Kind, api.KindInt, api.KindRatio)
		return n.isConstantPlace() && (e.Op != api.OpNeg || !isNumber)
	case api.ExprConst:
		printed, _ := literal.Print(e.Const)
		if n.inField() && (strings.Contains(printed, `\`) || strings.ContainsAny(e.Const.Text, "\"'#")) {
			return true
		}
		return n.under("Args", api.ExprFormat) && (e.Const.Kind != api.KindText || e.Const.Text == "")
	}
	return false
}

var (
	word     = regexp.MustCompile(`^[A-Za-z_][A-Za-z0-9_]{0,23}$`)
	keywords = strings.Fields(`and as assert async await break case catch class continue def del elif else false finally
		fn for from global if import in is match nil not or outer pass raise return super true try while with yield`)
)

func wantName(s string) bool { return word.MatchString(s) && !slices.Contains(keywords, s) }

func wantDotted(s string) bool {
	for rest := s; len(s) <= api.MaxDotted; {
		first, behind, found := strings.Cut(rest, ".")
		if !wantName(first) {
			return false
		}
		if !found {
			return true
		}
		rest = behind
	}
	return false
}

func nameRule(n *entry, _ int) int {
	var names []string
	switch {
	case n.stmt != nil:
		names = append(names, n.stmt.Names...)
		switch n.stmt.Kind {
		case api.StmtImport, api.StmtFrom:
			if !wantDotted(n.stmt.Name) {
				return api.ErrName
			}
		case api.StmtDef, api.StmtClass:
			names = append(names, n.stmt.Name)
		}
		for _, h := range n.stmt.Handlers {
			if h.Name != "" {
				names = append(names, h.Name)
			}
		}
	case n.pattern != nil:
		names = append(names, n.pattern.Names...)
		if kind := n.pattern.Kind; kind == api.PatCapture || kind == api.PatAs || n.pattern.Name != "" {
			names = append(names, n.pattern.Name)
			if n.pattern.Name == "_" {
				return api.ErrName
			}
		}
	case n.expr.Kind != api.ExprField && strings.Contains(exprUses[n.expr.Kind], "Name"):
		names = append(names, n.expr.Name)
	}
	return when(slices.ContainsFunc(names, func(s string) bool { return !wantName(s) }), api.ErrName)
}

// repeated reports whether a text occurs twice.
func repeated(l []string) bool {
	l = slices.Sorted(slices.Values(l))
	return len(slices.Compact(slices.Clone(l))) < len(l)
}

func arguments(n *entry, _ int) int {
	var args []api.Expr
	var names []string
	switch {
	case n.pattern != nil:
		names = n.pattern.Names
	case n.stmt != nil:
		args = n.stmt.Args
		if n.stmt.Kind == api.StmtGlobal || n.stmt.Kind == api.StmtOuter {
			names = n.stmt.Names
		}
	case n.expr.Kind == api.ExprCall:
		args = n.expr.Args[1:]
	}
	order := ""
	for _, a := range args {
		switch a.Kind {
		case api.ExprNamed:
			names = append(names, a.Name)
			order += "n"
		case api.ExprPairs:
			order += "n"
		default:
			order += "v"
		}
	}
	if repeated(names) {
		return api.ErrRepeated
	}
	return when(strings.Contains(order, "nv"), api.ErrOrder)
}

// paramOrder are the kinds of parameters in an order that is permitted: p is a plain one, d one with a default, s a star with a name, * one without, o what comes behind, and x the pairs.
var paramOrder = regexp.MustCompile(`^p*d*(?:so*|\*o+)?x?$`)

func parameters(n *entry, _ int) int {
	var l []api.Param
	switch {
	case n.stmt != nil:
		l = n.stmt.Params
	case n.expr != nil:
		l = n.expr.Params
	}
	var names []string
	order := ""
	for _, p := range l {
		if p.Kind < 0 || p.Kind > 3 || len(p.Default) > 1 || len(p.Default) == 1 && (p.Kind == api.ParamStar || p.Kind == api.ParamPairs) {
			return api.ErrForm
		}
		if p.Name == "" && p.Kind == api.ParamStar {
			order += "*"
			continue
		}
		if !wantName(p.Name) {
			return api.ErrName
		}
		names = append(names, p.Name)
		letter := string("psox"[p.Kind])
		if letter == "p" && len(p.Default) == 1 {
			letter = "d"
		}
		order += letter
	}
	switch {
	case len(l) > api.MaxParams:
		return api.ErrTooLarge
	case repeated(names):
		return api.ErrRepeated
	}
	return when(!paramOrder.MatchString(order), api.ErrOrder)
}

// scope returns the entry whose function or class body is the nearest one around an entry, or nil.
func (n *entry) scope() *entry {
	for c := n; c.up != nil; c = c.up {
		switch {
		case c.inStmt("Body", api.StmtDef), c.inStmt("Body", api.StmtClass), c.under("Args", api.ExprFn):
			return c.up
		case c.up.expr != nil && c.up.expr.Kind == api.ExprLoops && !(c.role == "Iter" && c.outer == 0):
			return c.up
		}
	}
	return nil
}

// isDef reports whether an entry is a StmtDef, with or without Async.
func (n *entry) isDef(async bool) bool {
	return n != nil && n.stmt != nil && n.stmt.Kind == api.StmtDef && n.stmt.Async == async
}

// leaves reports whether the way outwards from an entry comes to one of some bodies ahead of one of some others.
func (n *entry) leaves(isGoal, isWall func(c *entry) bool) bool {
	for c := n; c.up != nil; c = c.up {
		if isGoal(c) {
			return true
		}
		if isWall(c) || c.inStmt("HandlerBody", api.StmtTry) && c.up.stmt.Op == 1 {
			return false
		}
	}
	return false
}

func states(n *entry, _ int) int {
	isLoop := func(c *entry) bool { return c.inStmt("Body", api.StmtWhile) || c.inStmt("Body", api.StmtFor) }
	isDef := func(c *entry) bool { return c.inStmt("Body", api.StmtDef) }
	isClass := func(c *entry) bool { return c.inStmt("Body", api.StmtClass) }
	isBody := func(c *entry) bool { return isDef(c) || isClass(c) }
	scope := n.scope()
	isFn := scope != nil && scope.expr != nil && scope.expr.Kind == api.ExprFn
	permitted := true
	switch {
	case n.stmt != nil:
		switch n.stmt.Kind {
		case api.StmtBreak, api.StmtContinue:
			permitted = n.leaves(isLoop, isBody)
		case api.StmtReturn:
			permitted = n.leaves(isDef, isClass)
		case api.StmtOuter:
			permitted = scope.isDef(true) || scope.isDef(false)
		}
	case n.expr != nil:
		switch n.expr.Kind {
		case api.ExprYield, api.ExprFrom:
			permitted = scope.isDef(false) || isFn
		case api.ExprAwait:
			permitted = scope.isDef(true)
		case api.ExprSuper:
			permitted = isMethod(scope)
		}
	}
	return when(!permitted, api.ErrState)
}

// isMethod reports whether a scope is a function of a class body with a plain parameter at first.
func isMethod(scope *entry) bool {
	if scope == nil || scope.scope() == nil || scope.scope().stmt == nil || scope.scope().stmt.Kind != api.StmtClass {
		return false
	}
	var l []api.Param
	if scope.stmt != nil && scope.stmt.Kind == api.StmtDef {
		l = scope.stmt.Params
	} else if scope.expr != nil && scope.expr.Kind == api.ExprFn {
		l = scope.expr.Params
	}
	return len(l) > 0 && l[0].Kind == api.ParamPlain
}
