package natural_test

import (
	"math"
	"math/big"
	"slices"
	"strconv"
	"testing"

	"brindlewood/api"
	"brindlewood/natural"
)

var wrongBases = []int{1, 37, 0, -1, -2, -36, 38, 64, 1 << 32, 1<<32 + 10, math.MinInt, math.MaxInt}

// R1.3: Digits to all bases, and From of these digits, with and without leading zeros.
func TestDigitsAndFrom(t *testing.T) {
	for base := 2; base <= 36; base++ {
		for _, a := range append(edgeNumbers(), randomNumbers(int64(base), 10)...) {
			want := digitsOf(a, base)
			expectDigits(t, limbs(a), base, noFault, want)
			expectFrom(t, want, base, noFault, a)
			expectFrom(t, slices.Concat(make([]int, 100), want), base, noFault, a)
		}
	}
	expectDigits(t, []uint32{10}, 2, noFault, []int{1, 0, 1, 0})
	expectDigits(t, []uint32{255}, 16, noFault, []int{15, 15})
	expectDigits(t, nil, 10, noFault, nil)
	expectFrom(t, []int{1, 0, 1, 0}, 2, noFault, big.NewInt(10))
	expectFrom(t, []int{35, 35}, 36, noFault, big.NewInt(1295))
}

// R1.3: the errors of Digits, in their order.
func TestDigitsFaults(t *testing.T) {
	for _, base := range wrongBases {
		for _, a := range [][]uint32{nil, {1}, {5, 6}} {
			expectDigits(t, a, base, badBase, nil)
		}
	}
	for _, bad := range invalidNumbers() {
		for _, base := range append(wrongBases, 2, 10, 36) {
			expectDigits(t, bad, base, formFirst, nil)
		}
	}
}

// R1.3: From of nothing but zeros is 0.
func TestFromZeros(t *testing.T) {
	for _, base := range []int{2, 10, 36} {
		for _, count := range []int{0, 1, 2, 100, topBits + 1, 100_000} {
			expectFrom(t, make([]int, count), base, noFault, new(big.Int))
		}
	}
}

// R1.3: the errors of From for bases and digits, in their order.
func TestFromFaults(t *testing.T) {
	for _, base := range wrongBases {
		for _, digits := range [][]int{nil, {0}, {1, 0}, {-1}, {99}, slices.Repeat([]int{1}, topBits+1)} {
			expectFrom(t, digits, base, badBase, nil)
		}
	}
	for base := 2; base <= 36; base++ {
		for _, wrong := range []int{base, base + 1, -1, -base, 1 << 32, math.MinInt, math.MaxInt} {
			expectFrom(t, []int{wrong}, base, api.Fault{Code: api.ErrRange, Index: 0}, nil)
			expectFrom(t, []int{0, 1, wrong, base - 1, wrong}, base, api.Fault{Code: api.ErrRange, Index: 2}, nil)
		}
	}
	// A wrong digit counts before the size of the number, wherever it stands.
	many := append(slices.Repeat([]int{1}, topBits+50), 2)
	expectFrom(t, many, 2, api.Fault{Code: api.ErrRange, Index: topBits + 50}, nil)
}

// R1.3: numbers of MaxNatural limbs, and those that are just too large, to all bases.
func TestFromLimit(t *testing.T) {
	for base := 2; base <= 36; base++ {
		largest := digitsOf(power(topBits, -1), base)
		next := digitsOf(power(topBits, 0), base)
		expectFrom(t, largest, base, noFault, power(topBits, -1))
		expectFrom(t, next, base, tooLarge, nil)
		expectFrom(t, slices.Concat(make([]int, 77), largest), base, noFault, power(topBits, -1))
		expectFrom(t, slices.Concat(make([]int, 77), next), base, tooLarge, nil)
		expectFrom(t, append(largest, 0), base, tooLarge, nil)
		expectFrom(t, slices.Concat(next, make([]int, 50_000)), base, tooLarge, nil)
	}
	expectFrom(t, slices.Repeat([]int{1}, topBits), 2, noFault, power(topBits, -1))
	expectFrom(t, slices.Repeat([]int{1}, topBits+1), 2, tooLarge, nil)
	expectFrom(t, slices.Repeat([]int{35}, 1_000_000), 36, tooLarge, nil)
}

// digitsOf returns digits by another implementation.
func digitsOf(a *big.Int, base int) []int {
	if a.Sign() == 0 {
		return nil
	}
	var digits []int
	for _, letter := range a.Text(base) {
		digit, err := strconv.ParseInt(string(letter), 36, 64)
		if err != nil {
			panic(err)
		}
		digits = append(digits, int(digit))
	}
	return digits
}

// expectDigits compares the results of Digits, and checks that they share no memory with the argument.
func expectDigits(t *testing.T, a []uint32, base int, fault api.Fault, want []int) {
	t.Helper()
	x := withSpare(a, spareLimb)
	before := full(x)
	digits, got := natural.Digits(x, base)
	if got != fault || !same(digits, want) {
		t.Fatalf("%s to the base %d: %s %v, want %s %v", brief(a), base, brief(digits), got, brief(want), fault)
	}
	if !same(full(x), before) {
		t.Fatalf("%s to the base %d: the argument was changed", brief(a), base)
	}
}

// expectFrom compares the results of From; no number stands for none.
func expectFrom(t *testing.T, digits []int, base int, fault api.Fault, want *big.Int) {
	t.Helper()
	x := withSpare(digits, spareLimb)
	before := full(x)
	result, got := natural.From(x, base)
	var wanted []uint32
	if want != nil {
		wanted = limbs(want)
	}
	if got != fault || !same(result, wanted) {
		t.Fatalf("%s to the base %d: %s %v, want %s %v", brief(digits), base, brief(result), got, brief(wanted), fault)
	}
	if !same(full(x), before) {
		t.Fatalf("%s to the base %d: the argument was changed", brief(digits), base)
	}
}
