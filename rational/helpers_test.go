package rational_test

import (
	"fmt"
	"math/big"
	"math/rand"
	"slices"
	"testing"

	"brindlewood/api"
)

// Limbs that stand behind the end of an argument, to show whether a call writes there.
const spareLimb, spareLimbs = 0xdeadbeef, 4

const minInt, maxInt = -1 << 63, 1<<63 - 1

var noFault = api.Fault{}

// fault returns a fault.
func fault(code, index int) api.Fault { return api.Fault{Code: code, Index: index} }

// form is the fault of the n-th argument, counted from 1 on, that is not valid.
func form(n int) api.Fault { return fault(api.ErrForm, -n) }

var tooLarge = fault(api.ErrTooLarge, -1)

// toInt converts a number of any size.
func toInt(x *big.Int) api.Int {
	a := api.Int{Neg: x.Sign() < 0}
	mask := big.NewInt(1<<32 - 1)
	for rest := new(big.Int).Abs(x); rest.Sign() > 0; rest.Rsh(rest, 32) {
		a.Limbs = append(a.Limbs, uint32(new(big.Int).And(rest, mask).Uint64()))
	}
	return a
}

// toRatio converts a ratio of any size.
func toRatio(x *big.Rat) api.Ratio { return api.Ratio{Num: toInt(x.Num()), Den: toInt(x.Denom())} }

// power returns 2^n + add.
func power(n int, add int64) *big.Int {
	x := new(big.Int).Lsh(big.NewInt(1), uint(n))
	return x.Add(x, big.NewInt(add))
}

// greatest returns the greatest integer.
func greatest() *big.Int { return power(api.MaxBits, -1) }

// minus returns -x.
func minus(x *big.Int) *big.Int { return new(big.Int).Neg(x) }

// whole is an integer as a ratio.
func whole(x *big.Int) *big.Rat { return new(big.Rat).SetInt(x) }

// rat is a ratio of ints.
func rat(num, den int64) *big.Rat { return big.NewRat(num, den) }

// over is a ratio of integers.
func over(num, den *big.Int) *big.Rat { return new(big.Rat).SetFrac(num, den) }

// fits reports whether a ratio in lowest terms is not too large.
func fits(x *big.Rat) bool { return max(x.Num().BitLen(), x.Denom().BitLen()) <= api.MaxBits }

// randomInt returns a natural number with some limbs, among them many of all zeros or ones.
func randomInt(source *rand.Rand, limbs int) *big.Int {
	x := new(big.Int)
	for range limbs {
		limb := []uint32{0, 1, 1<<32 - 1, 1 << 31, source.Uint32(), source.Uint32()}[source.Intn(6)]
		x.Or(x.Lsh(x, 32), big.NewInt(int64(limb)))
	}
	return x
}

// edges are ratios whose terms are at the limits of limbs and of integers, and small ones, of both signs.
func edges() []*big.Rat {
	list := []*big.Rat{rat(0, 1), rat(1, 1), rat(2, 1), rat(1, 2), rat(3, 2), rat(5, 2), rat(7, 3), rat(5, 6), rat(355, 113)}
	unit, three := big.NewInt(1), big.NewInt(3)
	for _, n := range []int{32, 64, api.MaxBits / 2} {
		list = append(list, over(power(n, -1), power(n, 0)), over(power(n, 1), three), over(three, power(n, -2)), over(unit, power(n, 0)))
	}
	top := greatest()
	list = append(list, whole(top), over(unit, top), over(top, power(api.MaxBits-1, 0)), over(power(api.MaxBits, -2), top), over(top, big.NewInt(2)))
	return withSigns(list)
}

// randoms are random ratios of many sizes and both signs.
func randoms(count int) []*big.Rat {
	source := rand.New(rand.NewSource(int64(count)))
	sizes := []int{1, 1, 2, 3, 5, 9, 30, api.MaxLimbs/2 + 1, api.MaxLimbs}
	var list []*big.Rat
	for range count {
		num, den := randomInt(source, sizes[source.Intn(len(sizes))]), randomInt(source, sizes[source.Intn(len(sizes))])
		if den.Sign() == 0 {
			den.SetInt64(1)
		}
		list = append(list, over(num, den))
	}
	return withSigns(list)
}

// withSigns returns ratios and their opposites.
func withSigns(list []*big.Rat) []*big.Rat {
	for _, x := range slices.Clone(list) {
		if x.Sign() != 0 {
			list = append(list, new(big.Rat).Neg(x))
		}
	}
	return list
}

// pairs runs a check for pairs of ratios.
func pairs(check func(a, b *big.Rat)) {
	list := edges()
	for i, a := range list {
		for k := range 9 {
			check(a, list[(i*5+k*7+k)%len(list)])
		}
		check(a, a)
		check(a, new(big.Rat).Neg(a))
	}
	others := randoms(120)
	for i, a := range others {
		check(a, others[(i*7+1)%len(others)])
	}
}

// invalidInts are integers that are not valid.
func invalidInts() []api.Int {
	tooLong := make([]uint32, api.MaxLimbs+1)
	tooLong[api.MaxLimbs] = 1
	return []api.Int{
		{Neg: true}, {Neg: true, Limbs: []uint32{}}, {Limbs: []uint32{0}}, {Limbs: []uint32{1, 0}},
		{Neg: true, Limbs: []uint32{1, 0}}, {Limbs: tooLong}, {Neg: true, Limbs: tooLong},
	}
}

// invalid are ratios that are not valid.
func invalid() []api.Ratio {
	zero, unit, two, six := api.Int{}, api.Int{Limbs: []uint32{1}}, api.Int{Limbs: []uint32{2}}, api.Int{Limbs: []uint32{6}}
	minusOne, minusTwo := api.Int{Neg: true, Limbs: []uint32{1}}, api.Int{Neg: true, Limbs: []uint32{2}}
	list := []api.Ratio{
		{}, {Num: unit}, {Num: minusOne}, {Num: two}, {Num: unit, Den: api.Int{Limbs: []uint32{}}},
		{Num: unit, Den: minusOne}, {Num: unit, Den: minusTwo}, {Num: minusOne, Den: minusTwo}, {Num: zero, Den: minusOne},
		{Num: zero, Den: two}, {Num: two, Den: two}, {Num: two, Den: six}, {Num: six, Den: two}, {Num: minusTwo, Den: six},
		{Num: toInt(greatest()), Den: toInt(greatest())},
		{Num: toInt(new(big.Int).Mul(power(2000, 1), power(2050, -1))), Den: toInt(new(big.Int).Mul(power(2000, 1), power(2049, -3)))},
	}
	for _, bad := range invalidInts() {
		list = append(list, api.Ratio{Num: bad, Den: unit}, api.Ratio{Num: unit, Den: bad}, api.Ratio{Num: bad, Den: bad})
	}
	return list
}

// call is a call of integers that returns integers; a ratio counts as two, its numerator and its denominator.
type call func(a []api.Int) ([]api.Int, api.Fault)

// ratio joins two integers.
func ratio(a []api.Int) api.Ratio { return api.Ratio{Num: a[0], Den: a[1]} }

// parts separates the integers of ratios.
func parts(list ...api.Ratio) []api.Int {
	var result []api.Int
	for _, x := range list {
		result = append(result, x.Num, x.Den)
	}
	return result
}

// one makes a call of a function with one ratio.
func one(f func(x api.Ratio) (api.Ratio, api.Fault)) call {
	return func(a []api.Int) ([]api.Int, api.Fault) {
		result, fault := f(ratio(a))
		return parts(result), fault
	}
}

// two makes a call of a function with two ratios.
func two(f func(a, b api.Ratio) (api.Ratio, api.Fault)) call {
	return func(a []api.Int) ([]api.Int, api.Fault) {
		result, fault := f(ratio(a), ratio(a[2:]))
		return parts(result), fault
	}
}

// withSpare returns a copy that has spare capacity with known content.
func withSpare(a api.Int) api.Int {
	limbs := append(slices.Clone(a.Limbs), slices.Repeat([]uint32{spareLimb}, spareLimbs)...)
	return api.Int{Neg: a.Neg, Limbs: limbs[:len(a.Limbs)]}
}

// memory returns all limbs that some integers refer to, with their spare capacity.
func memory(list []api.Int) [][]uint32 {
	var all [][]uint32
	for _, a := range list {
		all = append(all, a.Limbs[:cap(a.Limbs)])
	}
	return all
}

// copied returns copies of lists.
func copied(all [][]uint32) [][]uint32 {
	var result [][]uint32
	for _, limbs := range all {
		result = append(result, slices.Clone(limbs))
	}
	return result
}

// same reports whether lists have the same elements.
func same(a, b [][]uint32) bool { return slices.EqualFunc(a, b, slices.Equal[[]uint32]) }

// make makes a call and checks that its arguments, with their spare capacity, remain, and that its results are memory of their own (Z4).
func (c call) make(t *testing.T, arguments []api.Int) ([]api.Int, api.Fault) {
	t.Helper()
	var given []api.Int
	for _, a := range arguments {
		given = append(given, withSpare(a))
	}
	before := copied(memory(given))
	results, fault := c(given)
	if !same(memory(given), before) {
		t.Fatalf("%s: the arguments were changed", brief(arguments))
	}
	var values []api.Int
	for _, result := range results {
		values = append(values, api.Int{Neg: result.Neg, Limbs: slices.Clone(result.Limbs)})
	}
	everything := append(memory(given), memory(results)...)
	want := copied(everything)
	for i, limbs := range everything {
		for k := range limbs {
			limbs[k] += uint32(i + 1)
			want[i][k] += uint32(i + 1)
		}
	}
	if !same(everything, want) {
		t.Fatalf("%s: results and arguments share memory", brief(arguments))
	}
	return values, fault
}

// expectInts compares the results of a call with integers; with a fault, all results are zero.
func (c call) expectInts(t *testing.T, arguments []api.Int, fault api.Fault, want ...*big.Int) {
	t.Helper()
	results, got := c.make(t, arguments)
	if got != fault {
		t.Fatalf("%s: fault %v, want %v", brief(arguments), got, fault)
	}
	if fault == noFault && len(results) != len(want) {
		t.Fatalf("%s: %d integers, want %d", brief(arguments), len(results), len(want))
	}
	for i, result := range results {
		wanted := api.Int{}
		if fault == noFault {
			wanted = toInt(want[i])
		}
		if result.Neg != wanted.Neg || !slices.Equal(result.Limbs, wanted.Limbs) {
			t.Fatalf("%s: result %d is %s, want %s", brief(arguments), i, brief(result), brief(wanted))
		}
	}
}

// expect compares the result of a call with a ratio.
func (c call) expect(t *testing.T, arguments []api.Int, want *big.Rat) {
	t.Helper()
	c.expectInts(t, arguments, noFault, want.Num(), want.Denom())
}

// expectLimited expects a ratio, or the fault of one that is too large.
func (c call) expectLimited(t *testing.T, want *big.Rat, arguments ...*big.Rat) {
	t.Helper()
	if fits(want) {
		c.expect(t, ratios(arguments...), want)
		return
	}
	c.expectInts(t, ratios(arguments...), tooLarge)
}

// expectForms checks the faults of ratios that are not valid, in all combinations with valid ones, ahead of some further integers; the first one counts.
func (c call) expectForms(t *testing.T, count int, further ...api.Int) {
	t.Helper()
	list := invalid()
	for i := range list {
		for _, good := range []*big.Rat{rat(0, 1), rat(-7, 3)} {
			for set := 1; set < 1<<count; set++ {
				var arguments []api.Ratio
				first := 0
				for k := range count {
					if set>>k&1 == 0 {
						arguments = append(arguments, toRatio(good))
						continue
					}
					arguments = append(arguments, list[(i+3*k)%len(list)])
					if first == 0 {
						first = k + 1
					}
				}
				c.expectInts(t, append(parts(arguments...), further...), form(first))
			}
		}
	}
}

// ratios converts ratios.
func ratios(list ...*big.Rat) []api.Int {
	var result []api.Int
	for _, x := range list {
		result = append(result, parts(toRatio(x))...)
	}
	return result
}

// brief is a text of values, shortened.
func brief(values ...any) string {
	text := fmt.Sprint(values...)
	if len(text) > 160 {
		text = text[:160] + " .."
	}
	return text
}
