package rational_test

import (
	"math/big"
	"testing"

	"brindlewood/api"
	"brindlewood/rational"
)

// The calls of R3.2 with two ratios.
var (
	add = two(rational.Add)
	sub = two(rational.Sub)
	mul = two(rational.Mul)
	div = two(rational.Div)
)

// pow is a call of Pow with an exponent.
func pow(n int) call {
	return one(func(x api.Ratio) (api.Ratio, api.Fault) { return rational.Pow(x, n) })
}

// R3.2: Add, Sub and Mul.
func TestAddSubMul(t *testing.T) {
	pairs(func(a, b *big.Rat) {
		add.expectLimited(t, new(big.Rat).Add(a, b), a, b)
		sub.expectLimited(t, new(big.Rat).Sub(a, b), a, b)
		mul.expectLimited(t, new(big.Rat).Mul(a, b), a, b)
	})
	add.expect(t, ratios(rat(1, 2), rat(1, 3)), rat(5, 6))
	add.expect(t, ratios(rat(1, 6), rat(1, 3)), rat(1, 2))
	sub.expect(t, ratios(rat(1, 2), rat(1, 3)), rat(1, 6))
	sub.expect(t, ratios(rat(1, 2), rat(1, 2)), rat(0, 1))
	mul.expect(t, ratios(rat(2, 3), rat(-3, 2)), rat(-1, 1))
	mul.expect(t, ratios(rat(0, 1), rat(-3, 2)), rat(0, 1))
}

// R3.2: Div.
func TestDiv(t *testing.T) {
	zero := fault(api.ErrZero, -2)
	pairs(func(a, b *big.Rat) {
		if b.Sign() == 0 {
			div.expectInts(t, ratios(a, b), zero)
			return
		}
		div.expectLimited(t, new(big.Rat).Quo(a, b), a, b)
	})
	div.expect(t, ratios(rat(2, 3), rat(-4, 9)), rat(-3, 2))
	div.expect(t, ratios(rat(-2, 3), rat(-4, 9)), rat(3, 2))
	div.expect(t, ratios(rat(0, 1), rat(-4, 9)), rat(0, 1))
	div.expectInts(t, ratios(rat(0, 1), rat(0, 1)), zero)
	div.expectInts(t, ratios(whole(greatest()), rat(0, 1)), zero)
	for _, bad := range invalid() {
		div.expectInts(t, parts(bad, toRatio(rat(0, 1))), form(1))
	}
}

// R3.2: ratios that are not valid.
func TestArithmeticForms(t *testing.T) {
	for _, c := range []call{add, sub, mul, div} {
		c.expectForms(t, 2)
	}
}

// R3.2: what counts for the size of a result are its lowest terms, however large they are before.
func TestArithmeticLimits(t *testing.T) {
	top, half := whole(greatest()), power(api.MaxBits/2, 0)
	unit, tiny := rat(1, 1), over(big.NewInt(1), greatest())
	add.expect(t, ratios(whole(power(api.MaxBits, -2)), unit), top)
	add.expectInts(t, ratios(top, unit), tooLarge)
	add.expectInts(t, ratios(top, rat(1, 2)), tooLarge)
	add.expectInts(t, ratios(top, tiny), tooLarge)
	add.expect(t, ratios(over(greatest(), big.NewInt(2)), rat(1, 2)), whole(power(api.MaxBits-1, 0)))
	add.expect(t, ratios(tiny, over(power(api.MaxBits, -2), greatest())), unit)
	add.expect(t, ratios(over(big.NewInt(1), half), over(big.NewInt(1), power(api.MaxBits/2, -1))), over(power(api.MaxBits/2+1, -1), new(big.Int).Mul(half, power(api.MaxBits/2, -1))))
	add.expectInts(t, ratios(over(big.NewInt(1), half), over(big.NewInt(1), power(api.MaxBits/2, 1))), tooLarge)
	sub.expect(t, ratios(whole(minus(power(api.MaxBits, -2))), unit), whole(minus(greatest())))
	sub.expectInts(t, ratios(whole(minus(greatest())), unit), tooLarge)
	sub.expect(t, ratios(tiny, tiny), rat(0, 1))
	mul.expect(t, ratios(over(greatest(), power(api.MaxBits-1, 0)), over(power(api.MaxBits-1, 0), greatest())), unit)
	mul.expect(t, ratios(over(greatest(), big.NewInt(2)), over(big.NewInt(2), power(api.MaxBits, -2))), over(greatest(), power(api.MaxBits, -2)))
	mul.expect(t, ratios(whole(power(api.MaxBits-1, 0)), rat(1, 2)), whole(power(api.MaxBits-2, 0)))
	mul.expectInts(t, ratios(whole(power(api.MaxBits-1, 0)), rat(-2, 1)), tooLarge)
	mul.expectInts(t, ratios(over(big.NewInt(1), power(api.MaxBits-1, 0)), rat(1, 2)), tooLarge)
	mul.expectInts(t, ratios(over(big.NewInt(1), half), over(big.NewInt(1), half)), tooLarge)
	div.expect(t, ratios(tiny, tiny), unit)
	div.expect(t, ratios(unit, top), tiny)
	div.expectInts(t, ratios(tiny, rat(2, 1)), tooLarge)
	div.expectInts(t, ratios(top, rat(1, 2)), tooLarge)
}

// R3.2: Pow, for exponents around those at which each ratio becomes too large.
func TestPow(t *testing.T) {
	for _, x := range append(edges(), randoms(10)...) {
		exponents := []int{0, 1, 2, 3, 5, 16}
		if size := max(x.Num().BitLen(), x.Denom().BitLen()); size > 1 {
			exponents = append(exponents, api.MaxBits/size, api.MaxBits/size+1, api.MaxBits/(size-1), api.MaxBits/(size-1)+1)
		}
		for _, n := range exponents {
			exponent := big.NewInt(int64(n))
			result := over(new(big.Int).Exp(x.Num(), exponent, nil), new(big.Int).Exp(x.Denom(), exponent, nil))
			pow(n).expectLimited(t, result, x)
			if x.Sign() != 0 {
				pow(-n).expectLimited(t, new(big.Rat).Inv(result), x)
			}
		}
	}
	pow(-2).expect(t, ratios(rat(2, 3)), rat(9, 4))
	pow(-3).expect(t, ratios(rat(-2, 3)), rat(-27, 8))
	pow(-1).expect(t, ratios(rat(-1, 3)), rat(-3, 1))
}

// R3.2: Pow with the largest exponents, at the largest results, and of 0.
func TestPowLimits(t *testing.T) {
	for _, n := range []int{1, 2, 9999, api.MaxExponent} {
		for _, exponent := range []int{n, -n} {
			pow(exponent).expect(t, ratios(rat(1, 1)), rat(1, 1))
			pow(exponent).expect(t, ratios(rat(-1, 1)), rat(int64(1-n%2*2), 1))
		}
		pow(n).expect(t, ratios(rat(0, 1)), rat(0, 1))
		pow(-n).expectInts(t, ratios(rat(0, 1)), fault(api.ErrZero, -1))
	}
	pow(0).expect(t, ratios(rat(0, 1)), rat(1, 1))
	last := api.MaxBits - 1
	pow(last).expect(t, ratios(rat(1, 2)), over(big.NewInt(1), power(last, 0)))
	pow(-last).expect(t, ratios(rat(1, 2)), whole(power(last, 0)))
	pow(-last).expect(t, ratios(rat(-2, 1)), over(big.NewInt(-1), power(last, 0)))
	for _, x := range []*big.Rat{rat(1, 2), rat(2, 1), rat(-1, 2), rat(3, 2), rat(2, 3), rat(-7, 1), whole(greatest())} {
		for _, n := range []int{last + 1, api.MaxExponent} {
			pow(n).expectInts(t, ratios(x), tooLarge)
			pow(-n).expectInts(t, ratios(x), tooLarge)
		}
	}
}

// R3.2: the faults of Pow, in their order.
func TestPowFaults(t *testing.T) {
	for _, n := range []int{api.MaxExponent + 1, -api.MaxExponent - 1, minInt, maxInt, minInt + 1} {
		for _, x := range []*big.Rat{rat(0, 1), rat(1, 1), rat(-1, 1), rat(2, 3), whole(greatest())} {
			pow(n).expectInts(t, ratios(x), fault(api.ErrRange, -2))
		}
		pow(n).expectForms(t, 1)
	}
	pow(0).expectForms(t, 1)
	pow(-1).expectForms(t, 1)
	pow(2).expectForms(t, 1)
}

// R3.2: Cmp.
func TestCmp(t *testing.T) {
	var got int
	cmp := call(func(a []api.Int) ([]api.Int, api.Fault) {
		result, fault := rational.Cmp(ratio(a), ratio(a[2:]))
		got = result
		return nil, fault
	})
	check := func(a, b *big.Rat) {
		cmp.expectInts(t, ratios(a, b), noFault)
		if got != a.Cmp(b) {
			t.Fatalf("%s and %s: %d", brief(a), brief(b), got)
		}
	}
	pairs(check)
	list := []*big.Rat{over(minus(greatest()), big.NewInt(2)), rat(-1, 1), rat(-2, 3), rat(-1, 3), rat(0, 1), rat(1, 3), rat(1, 2), rat(2, 3), rat(3, 1), whole(greatest())}
	for _, a := range list {
		for _, b := range list {
			check(a, b)
		}
	}
	near := over(power(api.MaxBits, -2), greatest())
	check(near, over(power(api.MaxBits, -3), power(api.MaxBits, -2)))
	check(new(big.Rat).Neg(near), rat(-1, 1))
	cmp.expectForms(t, 2)
	for _, bad := range invalid() {
		if result, _ := rational.Cmp(bad, toRatio(rat(1, 2))); result != 0 {
			t.Errorf("%s: %d beside a fault", brief(bad), result)
		}
	}
}
