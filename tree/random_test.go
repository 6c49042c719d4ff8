package tree_test

import (
	"math/rand"
	"reflect"
	"testing"

	"brindlewood/api"
	"brindlewood/tree"
)

// expectCodes checks that each of some codes has come up often enough for the comparison to say something.
func expectCodes(t *testing.T, counts map[int]int, least int, codes ...int) {
	t.Helper()
	for _, code := range codes {
		if counts[code] < least {
			t.Errorf("only %d trees have the code %d", counts[code], code)
		}
	}
}

// R8.2 and R8.3: the samples have no fault.
func TestSamples(t *testing.T) {
	for _, l := range samples() {
		expectValid(t, "sample", l)
	}
}

// R8.2 and R8.3: the samples with one small change each.
func TestMutants(t *testing.T) {
	counts := map[int]int{}
	forMutants(func(_, mutant []api.Stmt, path []string) {
		want := wantFault(mutant)
		counts[want.Code]++
		if got := tree.Validate(mutant); got != want {
			t.Fatalf("%v: fault %v, the oracle's is %v\n%s", path, got, want, brief(mutant))
		}
	})
	expectCodes(t, counts, 30, api.OK, api.ErrKind, api.ErrRange, api.ErrForm, api.ErrName, api.ErrRepeated, api.ErrOrder, api.ErrState)
}

// part is a value in a tree, with the name of the field in which it is.
type part struct {
	v    reflect.Value
	name string
}

// partsOf lists a value and everything in it.
func partsOf(v reflect.Value, name string, l []part) []part {
	l = append(l, part{v, name})
	switch v.Kind() {
	case reflect.Slice:
		for i := range v.Len() {
			l = partsOf(v.Index(i), name, l)
		}
	case reflect.Struct:
		for i := range v.NumField() {
			l = partsOf(v.Field(i), v.Type().Field(i).Name, l)
		}
	}
	return l
}

// pools are the values that occur in the samples, for each type.
func pools() map[reflect.Type][]reflect.Value {
	m := map[reflect.Type][]reflect.Value{}
	for _, l := range samples() {
		for _, p := range partsOf(reflect.ValueOf(l), "", nil) {
			m[p.v.Type()] = append(m[p.v.Type()], p.v)
		}
	}
	return m
}

// graft replaces a random part of a tree, which is no number or text unless small is set, by one that occurs in a sample, or, with small set, by one that mutate would put there.
func graft(l *[]api.Stmt, chance *rand.Rand, pool map[reflect.Type][]reflect.Value, small bool) {
	all := partsOf(reflect.ValueOf(l).Elem(), "", nil)
	for {
		p := all[chance.Intn(len(all))]
		isTree := p.v.Kind() == reflect.Slice || p.v.Kind() == reflect.Struct
		others := pool[p.v.Type()]
		switch {
		case isTree && len(others) > 0:
			p.v.Set(reflected(others[chance.Intn(len(others))], 0))
			return
		case small && p.v.Kind() == reflect.Int && integers[p.name] != nil:
			p.v.SetInt(int64(integers[p.name][chance.Intn(len(integers[p.name]))]))
			return
		case small && p.v.Kind() == reflect.String:
			p.v.SetString(texts[chance.Intn(len(texts))])
			return
		}
	}
}

// R8.2 and R8.3: random trees, which are put together from parts of the samples, with and without small changes.
func TestRandomTrees(t *testing.T) {
	chance := rand.New(rand.NewSource(82))
	all, pool := samples(), pools()
	counts := map[int]int{}
	for range 60_000 {
		l := clone(all[chance.Intn(len(all))])
		for range chance.Intn(12) {
			graft(&l, chance, pool, chance.Intn(4) == 0)
		}
		want := wantFault(l)
		counts[want.Code]++
		if got := tree.Validate(l); got != want {
			t.Fatalf("fault %v, the oracle's is %v\n%s", got, want, brief(l))
		}
	}
	expectCodes(t, counts, 40, api.OK, api.ErrKind, api.ErrRange, api.ErrForm, api.ErrName, api.ErrRepeated, api.ErrOrder, api.ErrState)
}
