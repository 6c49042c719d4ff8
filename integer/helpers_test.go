package integer_test

import (
	"fmt"
	"math/big"
	"math/rand"
	"slices"
	"testing"

	"brindlewood/api"
	"brindlewood/integer"
)

// Limbs that stand behind the end of an argument, to show whether a call writes there.
const spareLimb, spareLimbs = 0xdeadbeef, 4

const minInt, maxInt = -1 << 63, 1<<63 - 1

var noFault = api.Fault{}

// fault returns a fault.
func fault(code, index int) api.Fault { return api.Fault{Code: code, Index: index} }

// form is the fault of the n-th argument, counted from 1 on, that is not valid.
func form(n int) api.Fault { return fault(api.ErrForm, -n) }

var tooLarge = fault(api.ErrTooLarge, -1)

// toInt converts a number of any size.
func toInt(x *big.Int) api.Int {
	a := api.Int{Neg: x.Sign() < 0}
	mask := big.NewInt(1<<32 - 1)
	for rest := new(big.Int).Abs(x); rest.Sign() > 0; rest.Rsh(rest, 32) {
		a.Limbs = append(a.Limbs, uint32(new(big.Int).And(rest, mask).Uint64()))
	}
	return a
}

// power returns 2^n + add.
func power(n int, add int64) *big.Int {
	x := new(big.Int).Lsh(big.NewInt(1), uint(n))
	return x.Add(x, big.NewInt(add))
}

// minus returns -x.
func minus(x *big.Int) *big.Int { return new(big.Int).Neg(x) }

// fits reports whether a number has at most MaxLimbs limbs.
func fits(x *big.Int) bool { return x.BitLen() <= api.MaxBits }

// numbers are valid integers around the limits of limbs, of ints and of all integers, and random ones, of both signs.
func numbers(random int) []*big.Int {
	var list []*big.Int
	for n := range 8 {
		list = append(list, big.NewInt(int64(n)))
	}
	for _, n := range []int{31, 32, 33, 63, 64, 65, 95, 96, api.MaxBits / 2, api.MaxBits - 32, api.MaxBits - 1} {
		list = append(list, power(n, -1), power(n, 0), power(n, 1))
	}
	list = append(list, power(api.MaxBits, -2), power(api.MaxBits, -1))
	source := rand.New(rand.NewSource(int64(random)))
	for range random {
		size := []int{1, 1, 2, 3, 4, 9, 40, api.MaxLimbs/2 + 1, api.MaxLimbs}[source.Intn(9)]
		x := new(big.Int)
		for range size {
			limb := []uint32{0, 1, 1<<32 - 1, 1 << 31, source.Uint32(), source.Uint32()}[source.Intn(6)]
			x.Or(x.Lsh(x, 32), big.NewInt(int64(limb)))
		}
		list = append(list, x)
	}
	for _, x := range slices.Clone(list) {
		if x.Sign() != 0 {
			list = append(list, minus(x))
		}
	}
	return list
}

// pairs runs a check for pairs of numbers.
func pairs(check func(a, b *big.Int)) {
	edges := numbers(6)
	for _, a := range edges {
		for _, b := range edges {
			check(a, b)
		}
	}
	others := numbers(200)
	for i, a := range others {
		check(a, others[(i*7+1)%len(others)])
	}
}

// invalid are integers that are not valid.
func invalid() []api.Int {
	tooLong := make([]uint32, api.MaxLimbs+1)
	tooLong[api.MaxLimbs] = 1
	lastZero := make([]uint32, api.MaxLimbs)
	lastZero[0] = 7
	return []api.Int{
		{Neg: true}, {Neg: true, Limbs: []uint32{}}, {Limbs: []uint32{0}}, {Neg: true, Limbs: []uint32{0}},
		{Limbs: []uint32{1, 0}}, {Neg: true, Limbs: []uint32{1, 0}}, {Limbs: lastZero},
		{Limbs: tooLong}, {Neg: true, Limbs: tooLong}, {Limbs: make([]uint32, api.MaxLimbs+1)},
	}
}

// call is a call of some integers that returns integers.
type call func(a []api.Int) ([]api.Int, api.Fault)

// one makes a call of a function with one argument.
func one(f func(a api.Int) (api.Int, api.Fault)) call {
	return func(a []api.Int) ([]api.Int, api.Fault) {
		result, fault := f(a[0])
		return []api.Int{result}, fault
	}
}

// two makes a call of a function with two arguments.
func two(f func(a, b api.Int) (api.Int, api.Fault)) call {
	return func(a []api.Int) ([]api.Int, api.Fault) {
		result, fault := f(a[0], a[1])
		return []api.Int{result}, fault
	}
}

// byInt makes a call of a function with an integer and a given int.
func byInt(f func(a api.Int, n int) (api.Int, api.Fault), n int) call {
	return func(a []api.Int) ([]api.Int, api.Fault) {
		result, fault := f(a[0], n)
		return []api.Int{result}, fault
	}
}

// counting makes a call of a function that returns an int, which it stores; beside a fault it passes it on, as expect wants 0 there.
func counting(got *int, f func(a []api.Int) (int, api.Fault)) call {
	return func(a []api.Int) ([]api.Int, api.Fault) {
		result, fault := f(a)
		*got = result
		if fault != noFault {
			return []api.Int{integer.Of(result)}, fault
		}
		return nil, noFault
	}
}

// withSpare returns a copy whose limbs have spare capacity with known content.
func withSpare(a api.Int) api.Int {
	limbs := append(slices.Clone(a.Limbs), slices.Repeat([]uint32{spareLimb}, spareLimbs)...)
	return api.Int{Neg: a.Neg, Limbs: limbs[:len(a.Limbs)]}
}

// memory returns all limbs that some integers refer to, with their spare capacity.
func memory(list []api.Int) [][]uint32 {
	var all [][]uint32
	for _, a := range list {
		all = append(all, a.Limbs[:cap(a.Limbs)])
	}
	return all
}

// copied returns copies of lists.
func copied(all [][]uint32) [][]uint32 {
	var result [][]uint32
	for _, limbs := range all {
		result = append(result, slices.Clone(limbs))
	}
	return result
}

// same reports whether lists have the same elements.
func same(a, b [][]uint32) bool { return slices.EqualFunc(a, b, slices.Equal[[]uint32]) }

// make makes a call and checks that its arguments, with their spare capacity, remain, and that its results are memory of their own (Z4).
func (c call) make(t *testing.T, arguments []api.Int) ([]api.Int, api.Fault) {
	t.Helper()
	var given []api.Int
	for _, a := range arguments {
		given = append(given, withSpare(a))
	}
	before := copied(memory(given))
	results, fault := c(given)
	if !same(memory(given), before) {
		t.Fatalf("%s: the arguments were changed", brief(arguments...))
	}
	var values []api.Int
	for _, result := range results {
		values = append(values, api.Int{Neg: result.Neg, Limbs: slices.Clone(result.Limbs)})
	}
	everything := append(memory(given), memory(results)...)
	want := copied(everything)
	for i, limbs := range everything {
		for k := range limbs {
			limbs[k] += uint32(i + 1)
			want[i][k] += uint32(i + 1)
		}
	}
	if !same(everything, want) {
		t.Fatalf("%s: results and arguments share memory", brief(arguments...))
	}
	return values, fault
}

// expect compares the results of a call with numbers; with a fault, all results are 0.
func (c call) expect(t *testing.T, arguments []api.Int, fault api.Fault, want ...*big.Int) {
	t.Helper()
	results, got := c.make(t, arguments)
	if got != fault {
		t.Fatalf("%s: fault %v, want %v", brief(arguments...), got, fault)
	}
	for i, result := range results {
		wanted := new(big.Int)
		if fault == noFault {
			wanted = want[i]
		}
		if number := toInt(wanted); result.Neg != number.Neg || !slices.Equal(result.Limbs, number.Limbs) {
			t.Fatalf("%s: result %d is %s, want %s", brief(arguments...), i, brief(result), brief(number))
		}
	}
}

// expectLimited expects a number, or the fault of one that has too many limbs.
func (c call) expectLimited(t *testing.T, want *big.Int, arguments ...*big.Int) {
	t.Helper()
	if fits(want) {
		c.expect(t, ints(arguments...), noFault, want)
		return
	}
	c.expect(t, ints(arguments...), tooLarge)
}

// expectForms checks the faults of arguments that are not valid, in all combinations with valid ones; the first one counts.
func (c call) expectForms(t *testing.T, count int) {
	t.Helper()
	for _, bad := range invalid() {
		for _, good := range []api.Int{{}, {Limbs: []uint32{5, 6}}, {Neg: true, Limbs: []uint32{1}}} {
			for set := 1; set < 1<<count; set++ {
				arguments := make([]api.Int, count)
				first := 0
				for i := count - 1; i >= 0; i-- {
					arguments[i] = good
					if set>>i&1 == 1 {
						arguments[i] = bad
						first = i + 1
					}
				}
				c.expect(t, arguments, form(first))
			}
		}
	}
}

// ints converts numbers.
func ints(list ...*big.Int) []api.Int {
	var result []api.Int
	for _, x := range list {
		result = append(result, toInt(x))
	}
	return result
}

// small converts ints, whose limbs are known from TestOf to be right.
func small(list ...int) []api.Int {
	var result []api.Int
	for _, n := range list {
		result = append(result, integer.Of(n))
	}
	return result
}

// brief is a text of integers, shortened.
func brief(list ...api.Int) string {
	text := fmt.Sprint(list)
	if len(text) > 160 {
		text = text[:160] + " .."
	}
	return text
}
