package natural_test

import (
	"fmt"
	"math/big"
	"math/rand"
	"reflect"
	"slices"
	"strings"
	"testing"

	"brindlewood/api"
	"brindlewood/natural"
)

// Limbs that stand behind the end of an argument, to show whether a call writes there.
const spareLimb, spareLimbs = 0xdeadbeef, 4

const topBits = 32 * api.MaxNatural

var (
	noFault   = api.Fault{}
	formFirst = api.Fault{Code: api.ErrForm, Index: -1}
	formOther = api.Fault{Code: api.ErrForm, Index: -2}
	tooLarge  = api.Fault{Code: api.ErrTooLarge, Index: -1}
	badBase   = api.Fault{Code: api.ErrRange, Index: -2}
)

// limbs converts a number that is not negative.
func limbs(x *big.Int) []uint32 {
	var result []uint32
	mask := big.NewInt(1<<32 - 1)
	for x = new(big.Int).Set(x); x.Sign() > 0; x.Rsh(x, 32) {
		result = append(result, uint32(new(big.Int).And(x, mask).Uint64()))
	}
	return result
}

// number converts limbs, which need not be valid.
func number(a []uint32) *big.Int {
	x := new(big.Int)
	for i := len(a) - 1; i >= 0; i-- {
		x.Or(x.Lsh(x, 32), new(big.Int).SetUint64(uint64(a[i])))
	}
	return x
}

// power returns 2^n + add.
func power(n int, add int64) *big.Int {
	x := new(big.Int).Lsh(big.NewInt(1), uint(n))
	return x.Add(x, big.NewInt(add))
}

// factorial returns the product of the numbers up to n.
func factorial(n int64) *big.Int { return new(big.Int).MulRange(1, n) }

// fibonacci returns a Fibonacci number; two neighbours need the most steps to find their divisor.
func fibonacci(n int) *big.Int {
	x, y := big.NewInt(0), big.NewInt(1)
	for range n {
		x.Add(x, y)
		x, y = y, x
	}
	return x
}

// edgeNumbers are valid numbers around the limits of limbs and of all numbers.
func edgeNumbers() []*big.Int {
	var list []*big.Int
	for n := range 5 {
		list = append(list, big.NewInt(int64(n)))
	}
	for _, n := range []int{31, 32, 33, 63, 64, 65, 96, 128, topBits / 2, topBits - 32, topBits - 1} {
		list = append(list, power(n, -1), power(n, 0), power(n, 1))
	}
	list = append(list, power(topBits, -2), power(topBits, -1), factorial(60), fibonacci(400), fibonacci(401))
	// Quotients whose limbs are guessed too large, so that the divisor is added back.
	for _, a := range [][]uint32{{0, 0, 1 << 31, 1<<31 - 1}, {1, 0, 1 << 31}, {3, 0, 1 << 31}, {1, 0, 1 << 29}, {0, 1<<32 - 2, 1 << 31}, {1<<32 - 1, 0, 1 << 31}, {0, 0, 0, 1 << 31, 1<<31 - 1, 1 << 31}} {
		list = append(list, number(a))
	}
	return list
}

// randomNumbers are numbers of many sizes, some of them with long runs of equal digits.
func randomNumbers(seed int64, count int) []*big.Int {
	source := rand.New(rand.NewSource(seed))
	var list []*big.Int
	for range count {
		size := []int{1, 2, 3, 5, 17, 60, api.MaxNatural}[source.Intn(7)]
		a := make([]uint32, size)
		for i := range a {
			a[i] = []uint32{0, 1, 1<<32 - 1, 1 << 31, source.Uint32(), source.Uint32()}[source.Intn(6)]
		}
		list = append(list, number(a))
	}
	return list
}

// invalidNumbers are lists of limbs that are not valid.
func invalidNumbers() [][]uint32 {
	tooLong := make([]uint32, api.MaxNatural+1)
	tooLong[api.MaxNatural] = 1
	manyZeros := make([]uint32, api.MaxNatural+1)
	lastZero := make([]uint32, api.MaxNatural)
	lastZero[0] = 7
	return [][]uint32{{0}, {0, 0}, {1, 0}, lastZero, tooLong, manyZeros}
}

// withSpare returns a copy that has spare capacity with known content.
func withSpare[T any](a []T, spare T) []T {
	return append(slices.Clone(a), slices.Repeat([]T{spare}, spareLimbs)...)[:len(a)]
}

// overwrite changes a list, with its spare capacity.
func overwrite[T uint32 | int](a []T) {
	a = a[:cap(a)]
	for i := range a {
		a[i] += 12345
	}
}

// same reports whether two lists have the same elements.
func same[T uint32 | int](a, b []T) bool { return slices.Equal(a, b) }

// full returns a copy of a list with its spare capacity.
func full[T any](a []T) []T { return slices.Clone(a[:cap(a)]) }

// wide is a call of two numbers that returns lists of limbs.
type wide func(a, b []uint32) ([][]uint32, api.Fault)

// callBoth makes a call and checks that its arguments, with their spare capacity, remain, and that its results are memory of their own.
func callBoth(t *testing.T, call wide, a, b []uint32) ([][]uint32, api.Fault) {
	t.Helper()
	x, y := withSpare(a, spareLimb), withSpare(b, spareLimb)
	fullX, fullY := full(x), full(y)
	results, fault := call(x, y)
	if !same(full(x), fullX) || !same(full(y), fullY) {
		t.Fatalf("the arguments %s and %s were changed", brief(a), brief(b))
	}
	var values [][]uint32
	for _, result := range results {
		values = append(values, slices.Clone(result))
	}
	overwrite(x)
	overwrite(y)
	for i, result := range results {
		if !same(result, values[i]) {
			t.Fatalf("result %d of %s and %s is memory of an argument or of another result", i, brief(a), brief(b))
		}
		overwrite(result)
	}
	for i := range fullX {
		fullX[i] += 12345
	}
	for i := range fullY {
		fullY[i] += 12345
	}
	if !same(full(x), fullX) || !same(full(y), fullY) {
		t.Fatalf("results of %s and %s reach into an argument", brief(a), brief(b))
	}
	return values, fault
}

// expectBoth compares the results of a call with numbers; with a fault, all results are none.
func expectBoth(t *testing.T, call wide, a, b []uint32, fault api.Fault, want ...*big.Int) {
	t.Helper()
	results, got := callBoth(t, call, a, b)
	if got != fault {
		t.Fatalf("%s and %s: fault %v, want %v", brief(a), brief(b), got, fault)
	}
	for i, result := range results {
		if fault != noFault && len(result) != 0 {
			t.Fatalf("%s and %s: result %d is %s beside a fault", brief(a), brief(b), i, brief(result))
		}
		if fault == noFault && !same(result, limbs(want[i])) {
			t.Fatalf("%s and %s: result %d is %s, want %s", brief(a), brief(b), i, brief(result), brief(limbs(want[i])))
		}
	}
}

// expectForms checks the faults of arguments that are not valid; the first one counts.
func expectForms(t *testing.T, call wide) {
	t.Helper()
	for _, bad := range invalidNumbers() {
		for _, good := range [][]uint32{nil, {1}, {5, 6}} {
			expectBoth(t, call, bad, good, formFirst)
			expectBoth(t, call, good, bad, formOther)
		}
		expectBoth(t, call, bad, bad, formFirst)
	}
}

// alone makes a call of two numbers of a call of one, which takes the first.
func alone(call func(a []uint32) ([]uint32, api.Fault)) wide {
	return func(a, b []uint32) ([][]uint32, api.Fault) {
		result, fault := call(a)
		return [][]uint32{result}, fault
	}
}

// single makes a list of the result of a call.
func single(call func(a, b []uint32) ([]uint32, api.Fault)) wide {
	return func(a, b []uint32) ([][]uint32, api.Fault) {
		result, fault := call(a, b)
		return [][]uint32{result}, fault
	}
}

// brief is the text of a list, shortened.
func brief[T any](a []T) string {
	text := strings.Join(strings.Fields(fmt.Sprint(a)), " ")
	if len(text) > 80 {
		text = fmt.Sprintf("%s .. (%d elements)", text[:80], len(a))
	}
	return text
}

// pairs runs a check for all pairs of edge numbers and for pairs of random ones.
func pairs(check func(a, b *big.Int)) {
	edges := edgeNumbers()
	for _, a := range edges {
		for _, b := range edges {
			check(a, b)
		}
	}
	others := randomNumbers(1, 400)
	for i, a := range others {
		check(a, others[(i*7+1)%len(others)])
	}
}

// each runs a check for edge numbers and random ones.
func each(check func(a *big.Int)) {
	for _, a := range append(edgeNumbers(), randomNumbers(2, 200)...) {
		check(a)
	}
}

// TestNilAndEmpty checks that nil and empty lists are the same number, for every function (Z6).
func TestNilAndEmpty(t *testing.T) {
	empty := make([]uint32, 0, 3)
	for i, calls := range [][2][]any{
		{results(natural.Valid(nil)), results(natural.Valid(empty))},
		{results(natural.Cmp(nil, nil)), results(natural.Cmp(empty, empty))},
		{results(natural.Bits(nil)), results(natural.Bits(empty))},
		{results(natural.Add(nil, []uint32{5})), results(natural.Add(empty, []uint32{5}))},
		{results(natural.Sub([]uint32{5}, nil)), results(natural.Sub([]uint32{5}, empty))},
		{results(natural.DivMod([]uint32{5}, nil)), results(natural.DivMod([]uint32{5}, empty))},
		{results(natural.Gcd(nil, []uint32{5})), results(natural.Gcd(empty, []uint32{5}))},
		{results(natural.Digits(nil, 1)), results(natural.Digits(empty, 1))},
		{results(natural.From(nil, 37)), results(natural.From([]int{}, 37))},
	} {
		if !reflect.DeepEqual(calls[0], calls[1]) {
			t.Errorf("calls %d: %v for nil, %v for an empty list", i, calls[0], calls[1])
		}
	}
	for _, zero := range [][]uint32{nil, empty} {
		expectBoth(t, single(natural.Mul), zero, []uint32{5}, noFault, new(big.Int))
		expectBoth(t, single(natural.Gcd), zero, zero, noFault, new(big.Int))
		expectBoth(t, alone(natural.Sqrt), zero, nil, noFault, new(big.Int))
	}
}

// results collects the results of a call.
func results(all ...any) []any { return all }
