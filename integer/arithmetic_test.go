package integer_test

import (
	"math/big"
	"testing"

	"brindlewood/api"
	"brindlewood/integer"
)

// The integers with the greatest absolute value.
var (
	greatest = power(api.MaxBits, -1)
	least    = minus(greatest)
)

// divMod is a call of DivMod.
var divMod = call(func(a []api.Int) ([]api.Int, api.Fault) {
	quotient, rest, fault := integer.DivMod(a[0], a[1])
	return []api.Int{quotient, rest}, fault
})

// R2.2: Neg and Abs.
func TestNegAndAbs(t *testing.T) {
	for _, a := range numbers(50) {
		one(integer.Neg).expect(t, ints(a), noFault, minus(a))
		one(integer.Abs).expect(t, ints(a), noFault, new(big.Int).Abs(a))
	}
	one(integer.Neg).expectForms(t, 1)
	one(integer.Abs).expectForms(t, 1)
}

// R2.2: Add.
func TestAdd(t *testing.T) {
	add := two(integer.Add)
	pairs(func(a, b *big.Int) { add.expectLimited(t, new(big.Int).Add(a, b), a, b) })
	add.expectForms(t, 2)
	add.expect(t, ints(power(api.MaxBits, -2), big.NewInt(1)), noFault, greatest)
	add.expect(t, ints(greatest, big.NewInt(1)), tooLarge)
	add.expect(t, ints(big.NewInt(-1), least), tooLarge)
	add.expect(t, ints(greatest, least), noFault, new(big.Int))
	add.expect(t, ints(least, big.NewInt(1)), noFault, minus(power(api.MaxBits, -2)))
}

// R2.2: Sub.
func TestSub(t *testing.T) {
	sub := two(integer.Sub)
	pairs(func(a, b *big.Int) { sub.expectLimited(t, new(big.Int).Sub(a, b), a, b) })
	sub.expectForms(t, 2)
	sub.expect(t, ints(greatest, big.NewInt(-1)), tooLarge)
	sub.expect(t, ints(least, big.NewInt(1)), tooLarge)
	sub.expect(t, ints(least, least), noFault, new(big.Int))
	sub.expect(t, ints(new(big.Int), greatest), noFault, least)
}

// R2.2: Mul.
func TestMul(t *testing.T) {
	mul := two(integer.Mul)
	pairs(func(a, b *big.Int) { mul.expectLimited(t, new(big.Int).Mul(a, b), a, b) })
	mul.expectForms(t, 2)
	half := power(api.MaxBits/2, -1)
	mul.expect(t, ints(half, minus(half)), noFault, minus(new(big.Int).Mul(half, half)))
	mul.expect(t, ints(power(api.MaxBits/2, 0), power(api.MaxBits/2, 0)), tooLarge)
	mul.expect(t, ints(power(api.MaxBits-1, 0), big.NewInt(-2)), tooLarge)
	mul.expect(t, ints(least, greatest), tooLarge)
	mul.expect(t, ints(least, new(big.Int)), noFault, new(big.Int))
	mul.expect(t, ints(least, big.NewInt(-1)), noFault, greatest)
}

// R2.2: DivMod; the quotient is rounded down, so the rest has the sign of the divisor.
func TestDivMod(t *testing.T) {
	zero := fault(api.ErrZero, -2)
	pairs(func(a, b *big.Int) {
		if b.Sign() == 0 {
			divMod.expect(t, ints(a, b), zero)
			return
		}
		quotient, rest := new(big.Int).QuoRem(a, b, new(big.Int))
		if rest.Sign() != 0 && rest.Sign() != b.Sign() {
			quotient.Sub(quotient, big.NewInt(1))
			rest.Add(rest, b)
		}
		divMod.expect(t, ints(a, b), noFault, quotient, rest)
	})
	for _, c := range [][4]int{
		{7, 2, 3, 1}, {-7, 2, -4, 1}, {7, -2, -4, -1}, {-7, -2, 3, -1},
		{6, 2, 3, 0}, {-6, 2, -3, 0}, {6, -2, -3, 0}, {-6, -2, 3, 0},
		{1, 5, 0, 1}, {-1, 5, -1, 4}, {1, -5, -1, -4}, {-1, -5, 0, -1}, {0, -5, 0, 0}, {0, 5, 0, 0},
		{minInt, 10, -922337203685477581, 2},
	} {
		divMod.expect(t, small(c[0], c[1]), noFault, big.NewInt(int64(c[2])), big.NewInt(int64(c[3])))
	}
	divMod.expectForms(t, 2)
	divMod.expect(t, small(0, 0), zero)
	divMod.expect(t, []api.Int{{Neg: true}, {}}, form(1))
	divMod.expect(t, ints(least, big.NewInt(-1)), noFault, greatest, new(big.Int))
	divMod.expect(t, ints(least, big.NewInt(1)), noFault, least, new(big.Int))
	divMod.expect(t, ints(least, greatest), noFault, big.NewInt(-1), new(big.Int))
}

// R2.2: Gcd.
func TestGcd(t *testing.T) {
	gcd := two(integer.Gcd)
	pairs(func(a, b *big.Int) {
		gcd.expect(t, ints(a, b), noFault, new(big.Int).GCD(nil, nil, new(big.Int).Abs(a), new(big.Int).Abs(b)))
	})
	gcd.expectForms(t, 2)
	for _, c := range [][3]int64{{0, 0, 0}, {0, -5, 5}, {-5, 0, 5}, {-4, -6, 2}, {12, -18, 6}, {-1, 7, 1}} {
		gcd.expect(t, ints(big.NewInt(c[0]), big.NewInt(c[1])), noFault, big.NewInt(c[2]))
	}
}

// R2.2: Sqrt.
func TestSqrt(t *testing.T) {
	sqrt := one(integer.Sqrt)
	for _, a := range numbers(50) {
		if a.Sign() < 0 {
			sqrt.expect(t, ints(a), fault(api.ErrRange, -1))
			continue
		}
		sqrt.expect(t, ints(a), noFault, new(big.Int).Sqrt(a))
		if square := new(big.Int).Mul(a, a); fits(square) && a.Sign() > 0 {
			sqrt.expect(t, ints(square), noFault, a)
			sqrt.expect(t, ints(new(big.Int).Sub(square, big.NewInt(1))), noFault, new(big.Int).Sub(a, big.NewInt(1)))
		}
	}
	sqrt.expectForms(t, 1)
}
