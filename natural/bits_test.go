package natural_test

import (
	"math"
	"math/big"
	"testing"

	"brindlewood/api"
	"brindlewood/natural"
)

// R1.2: Bits; 0 has none.
func TestBits(t *testing.T) {
	var got int
	call := func(a, b []uint32) ([][]uint32, api.Fault) {
		result, fault := natural.Bits(a)
		got = result
		return nil, fault
	}
	each(func(a *big.Int) {
		expectBoth(t, call, limbs(a), nil, noFault)
		if got != a.BitLen() {
			t.Fatalf("%v: %d", a, got)
		}
	})
	for _, bad := range invalidNumbers() {
		expectBoth(t, call, bad, nil, formFirst)
		if got != 0 {
			t.Errorf("%s: %d beside a fault", brief(bad), got)
		}
	}
}

// R1.2: Shift; a number of 32 * MaxNatural binary digits is the largest, and 0 is shifted by any number of places.
func TestShift(t *testing.T) {
	each(func(a *big.Int) {
		count := a.BitLen()
		for _, n := range []int{0, 1, -1, 5, -5, 31, -31, 32, -32, 33, -33, 63, 64, 100, -100, 1 - count, -count, -count - 1, topBits - count - 1, topBits - count, topBits - count + 1, topBits, -topBits, topBits + 1} {
			expectShift(t, a, n)
		}
		for _, n := range []int{math.MinInt, math.MinInt + 1, math.MinInt32, math.MaxInt32, math.MaxInt - 1, math.MaxInt} {
			expectShift(t, a, n)
		}
	})
	expectBoth(t, shiftBy(-1), []uint32{5}, nil, noFault, big.NewInt(2))
	expectBoth(t, shiftBy(topBits-1), []uint32{1}, nil, noFault, power(topBits-1, 0))
	expectBoth(t, shiftBy(topBits), []uint32{1}, nil, tooLarge)
	for _, bad := range invalidNumbers() {
		for _, n := range []int{0, 1, -1, topBits, -topBits, math.MaxInt, math.MinInt} {
			expectBoth(t, shiftBy(n), bad, nil, formFirst)
		}
	}
}

// R1.2: Sqrt of numbers, their squares and what is just beside these.
func TestSqrt(t *testing.T) {
	each(func(a *big.Int) {
		expectBoth(t, alone(natural.Sqrt), limbs(a), nil, noFault, new(big.Int).Sqrt(a))
		square := new(big.Int).Mul(a, a)
		if a.Sign() == 0 || square.BitLen() >= topBits {
			return
		}
		below, above := new(big.Int).Sub(square, big.NewInt(1)), new(big.Int).Add(square, big.NewInt(1))
		expectBoth(t, alone(natural.Sqrt), limbs(square), nil, noFault, a)
		expectBoth(t, alone(natural.Sqrt), limbs(below), nil, noFault, new(big.Int).Sub(a, big.NewInt(1)))
		expectBoth(t, alone(natural.Sqrt), limbs(above), nil, noFault, a)
	})
	for n := range int64(200) {
		expectBoth(t, alone(natural.Sqrt), limbs(big.NewInt(n)), nil, noFault, new(big.Int).Sqrt(big.NewInt(n)))
	}
	for _, bad := range invalidNumbers() {
		expectBoth(t, alone(natural.Sqrt), bad, nil, formFirst)
	}
}

// expectShift compares a shift with that of another implementation.
func expectShift(t *testing.T, a *big.Int, n int) {
	t.Helper()
	switch {
	case a.Sign() == 0 || n <= -a.BitLen():
		expectBoth(t, shiftBy(n), limbs(a), nil, noFault, new(big.Int))
	case n > topBits-a.BitLen():
		expectBoth(t, shiftBy(n), limbs(a), nil, tooLarge)
	case n < 0:
		expectBoth(t, shiftBy(n), limbs(a), nil, noFault, new(big.Int).Rsh(a, uint(-n)))
	default:
		expectBoth(t, shiftBy(n), limbs(a), nil, noFault, new(big.Int).Lsh(a, uint(n)))
	}
}

// shiftBy is a shift by a number of places as a call.
func shiftBy(n int) wide {
	return alone(func(a []uint32) ([]uint32, api.Fault) { return natural.Shift(a, n) })
}
