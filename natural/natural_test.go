package natural_test

import (
	"math/big"
	"slices"
	"testing"

	"brindlewood/api"
	"brindlewood/natural"
)

// R1.1: Valid.
func TestValid(t *testing.T) {
	for _, a := range [][]uint32{nil, {}, {1}, {1<<32 - 1}, {0, 1}, limbs(power(topBits-32, 0)), limbs(power(topBits, -1))} {
		if !natural.Valid(a) {
			t.Errorf("%s is not valid", brief(a))
		}
	}
	for _, a := range append(invalidNumbers(), limbs(power(topBits, 0))) {
		b := withSpare(a, spareLimb)
		before := full(b)
		if natural.Valid(b) {
			t.Errorf("%s is valid", brief(a))
		}
		if !same(full(b), before) {
			t.Errorf("%s was changed", brief(a))
		}
	}
}

// R1.1: Cmp.
func TestCmp(t *testing.T) {
	var got int
	call := func(a, b []uint32) ([][]uint32, api.Fault) {
		result, fault := natural.Cmp(a, b)
		got = result
		return nil, fault
	}
	pairs(func(a, b *big.Int) {
		expectBoth(t, call, limbs(a), limbs(b), noFault)
		if got != a.Cmp(b) {
			t.Fatalf("%v and %v: %d", a, b, got)
		}
	})
	expectForms(t, call)
	if got != 0 {
		t.Errorf("%d beside a fault", got)
	}
}

// R1.1: Add; a sum of 600 limbs is the largest.
func TestAdd(t *testing.T) {
	pairs(func(a, b *big.Int) {
		expectLimited(t, single(natural.Add), a, b, new(big.Int).Add(a, b))
	})
	expectForms(t, single(natural.Add))
	expectBoth(t, single(natural.Add), []uint32{1<<32 - 1}, []uint32{1}, noFault, power(32, 0))
	expectBoth(t, single(natural.Add), limbs(power(topBits, -2)), []uint32{1}, noFault, power(topBits, -1))
	expectBoth(t, single(natural.Add), limbs(power(topBits, -1)), []uint32{1}, tooLarge)
	expectBoth(t, single(natural.Add), []uint32{1}, limbs(power(topBits, -1)), tooLarge)
}

// R1.1: Sub; the second number must not be the greater one.
func TestSub(t *testing.T) {
	negative := api.Fault{Code: api.ErrRange, Index: -2}
	pairs(func(a, b *big.Int) {
		if a.Cmp(b) < 0 {
			expectBoth(t, single(natural.Sub), limbs(a), limbs(b), negative)
			return
		}
		expectBoth(t, single(natural.Sub), limbs(a), limbs(b), noFault, new(big.Int).Sub(a, b))
	})
	expectForms(t, single(natural.Sub))
	expectBoth(t, single(natural.Sub), nil, []uint32{1}, negative)
	expectBoth(t, single(natural.Sub), []uint32{0, 0, 1}, []uint32{1}, noFault, power(64, -1))
	expectBoth(t, single(natural.Sub), []uint32{3, 4}, []uint32{3, 4}, noFault, new(big.Int))
}

// R1.1: Mul; a product of 600 limbs is the largest.
func TestMul(t *testing.T) {
	pairs(func(a, b *big.Int) {
		expectLimited(t, single(natural.Mul), a, b, new(big.Int).Mul(a, b))
	})
	expectForms(t, single(natural.Mul))
	half := limbs(power(topBits/2, -1))
	expectBoth(t, single(natural.Mul), half, half, noFault, new(big.Int).Mul(number(half), number(half)))
	expectBoth(t, single(natural.Mul), limbs(power(topBits-1, 0)), []uint32{1}, noFault, power(topBits-1, 0))
	expectBoth(t, single(natural.Mul), limbs(power(topBits-1, 0)), []uint32{2}, tooLarge)
	expectBoth(t, single(natural.Mul), limbs(power(topBits/2, 0)), limbs(power(topBits/2, 0)), tooLarge)
	expectBoth(t, single(natural.Mul), limbs(power(topBits, -1)), limbs(power(topBits, -1)), tooLarge)
	expectBoth(t, single(natural.Mul), limbs(power(topBits, -1)), nil, noFault, new(big.Int))
}

// R1.1: DivMod.
func TestDivMod(t *testing.T) {
	zero := api.Fault{Code: api.ErrZero, Index: -2}
	pairs(func(a, b *big.Int) {
		if b.Sign() == 0 {
			expectBoth(t, divMod, limbs(a), nil, zero)
			return
		}
		quotient, rest := new(big.Int).QuoRem(a, b, new(big.Int))
		expectBoth(t, divMod, limbs(a), limbs(b), noFault, quotient, rest)
	})
	expectForms(t, divMod)
	expectBoth(t, divMod, nil, nil, zero)
	expectBoth(t, divMod, []uint32{0}, nil, formFirst)
	expectBoth(t, divMod, []uint32{7}, []uint32{9}, noFault, new(big.Int), big.NewInt(7))
	expectBoth(t, divMod, []uint32{0, 1}, []uint32{3}, noFault, big.NewInt(1431655765), big.NewInt(1))
}

// R1.1: DivMod of products and numbers just beside them, whose rests are the smallest and the greatest.
func TestDivModOfProducts(t *testing.T) {
	pairs(func(a, b *big.Int) {
		multiple := new(big.Int).Mul(a, b)
		if b.Cmp(big.NewInt(1)) <= 0 || a.Sign() == 0 || multiple.BitLen() >= topBits {
			return
		}
		expectBoth(t, divMod, limbs(multiple), limbs(b), noFault, a, new(big.Int))
		below := new(big.Int).Sub(multiple, big.NewInt(1))
		quotient, rest := new(big.Int).QuoRem(below, b, new(big.Int))
		expectBoth(t, divMod, limbs(below), limbs(b), noFault, quotient, rest)
	})
}

// R1.1: Gcd; that of 0 and 0 is 0.
func TestGcd(t *testing.T) {
	pairs(func(a, b *big.Int) {
		expectBoth(t, single(natural.Gcd), limbs(a), limbs(b), noFault, new(big.Int).GCD(nil, nil, a, b))
	})
	expectForms(t, single(natural.Gcd))
	expectBoth(t, single(natural.Gcd), nil, nil, noFault, new(big.Int))
	expectBoth(t, single(natural.Gcd), nil, []uint32{1, 2}, noFault, number([]uint32{1, 2}))
	expectBoth(t, single(natural.Gcd), []uint32{1, 2}, nil, noFault, number([]uint32{1, 2}))
	expectBoth(t, single(natural.Gcd), []uint32{12}, []uint32{18}, noFault, big.NewInt(6))
	common := factorial(300)
	x, y := new(big.Int).Mul(common, fibonacci(5000)), new(big.Int).Mul(common, fibonacci(5001))
	expectBoth(t, single(natural.Gcd), limbs(x), limbs(y), noFault, common)
	expectBoth(t, single(natural.Gcd), limbs(power(topBits, -1)), limbs(power(topBits, -1)), noFault, power(topBits, -1))
}

// Z4: two arguments that share their memory are numbers like any others.
func TestSharedArguments(t *testing.T) {
	memory := []uint32{9, 8, 7, 6, 5}
	for _, call := range []wide{single(natural.Add), single(natural.Mul), single(natural.Gcd), single(natural.Sub), divMod} {
		got, fault := call(memory[:4], memory[:3])
		want, wantFault := call([]uint32{9, 8, 7, 6}, []uint32{9, 8, 7})
		if fault != wantFault || !slices.EqualFunc(got, want, same) || !same(memory, []uint32{9, 8, 7, 6, 5}) {
			t.Errorf("%v %v with %v, want %v", got, fault, memory, want)
		}
	}
}

// divMod is DivMod as a call with a list of results.
func divMod(a, b []uint32) ([][]uint32, api.Fault) {
	quotient, rest, fault := natural.DivMod(a, b)
	return [][]uint32{quotient, rest}, fault
}

// expectLimited expects a result or, if it is not valid, the fault for it.
func expectLimited(t *testing.T, call wide, a, b, want *big.Int) {
	t.Helper()
	if want.BitLen() > topBits {
		expectBoth(t, call, limbs(a), limbs(b), tooLarge)
		return
	}
	expectBoth(t, call, limbs(a), limbs(b), noFault, want)
}
