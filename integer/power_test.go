package integer_test

import (
	"math/big"
	"testing"

	"brindlewood/api"
	"brindlewood/integer"
)

// pow is a call of Pow with an exponent.
func pow(n int) call { return byInt(integer.Pow, n) }

// powMod is a call of PowMod.
var powMod = call(func(a []api.Int) ([]api.Int, api.Fault) {
	result, fault := integer.PowMod(a[0], a[1], a[2])
	return []api.Int{result}, fault
})

// R2.3: Pow, for exponents around those at which each number becomes too large.
func TestPow(t *testing.T) {
	for _, a := range numbers(30) {
		exponents := []int{0, 1, 2, 3, 4, 5, 17}
		if a.BitLen() > 1 {
			limit := api.MaxBits / a.BitLen()
			exponents = append(exponents, limit-1, limit, limit+1, api.MaxBits/(a.BitLen()-1), api.MaxBits/(a.BitLen()-1)+1)
		}
		for _, n := range exponents {
			pow(n).expectLimited(t, new(big.Int).Exp(a, big.NewInt(int64(n)), nil), a)
		}
	}
	for _, n := range []int{0, 1, 2, 9999, api.MaxExponent} {
		pow(n).expect(t, small(1), noFault, big.NewInt(1))
		pow(n).expect(t, small(-1), noFault, big.NewInt(int64(1-n%2*2)))
	}
	pow(0).expect(t, small(0), noFault, big.NewInt(1))
	pow(api.MaxExponent).expect(t, small(0), noFault, new(big.Int))
	pow(api.MaxBits-1).expect(t, small(-2), noFault, minus(power(api.MaxBits-1, 0)))
	pow(api.MaxBits).expect(t, small(2), tooLarge)
	for _, n := range []int{2, -2, 3, maxInt} {
		pow(api.MaxExponent).expect(t, small(n), tooLarge)
	}
}

// R2.3: the faults of Pow, in their order.
func TestPowFaults(t *testing.T) {
	for _, n := range []int{-1, api.MaxExponent + 1, minInt, maxInt} {
		for _, a := range numbers(0) {
			pow(n).expect(t, ints(a), fault(api.ErrRange, -2))
		}
		pow(n).expectForms(t, 1)
	}
	pow(0).expectForms(t, 1)
	pow(2).expectForms(t, 1)
}

// R2.3: PowMod.
func TestPowMod(t *testing.T) {
	bases, others := numbers(20), numbers(5)
	exponents := []*big.Int{new(big.Int), big.NewInt(1), big.NewInt(2), big.NewInt(7), power(32, 0), power(65, 1), power(70, -1)}
	for i, m := range others {
		if m.Sign() <= 0 {
			continue
		}
		for k := range 12 {
			a, n := bases[(i*5+k*11)%len(bases)], exponents[(i+k)%len(exponents)]
			powMod.expect(t, ints(a, n, m), noFault, new(big.Int).Exp(new(big.Int).Mod(a, m), n, m))
		}
	}
	for _, n := range []*big.Int{greatest, power(api.MaxBits-1, 0)} {
		m := power(api.MaxBits, -3)
		powMod.expect(t, ints(least, n, m), noFault, new(big.Int).Exp(new(big.Int).Mod(least, m), n, m))
	}
	for _, c := range [][4]int{
		{3, 4, 5, 1}, {-3, 3, 5, 3}, {-1, 3, 5, 4}, {2, 0, 5, 1}, {0, 0, 5, 1}, {0, 3, 5, 0},
		{0, 0, 1, 0}, {7, 0, 1, 0}, {7, 3, 1, 0}, {5, 2, 5, 0}, {-5, 1, 5, 0}, {-1, 1, maxInt, maxInt - 1},
	} {
		powMod.expect(t, small(c[0], c[1], c[2]), noFault, big.NewInt(int64(c[3])))
	}
}

// R2.3: the faults of PowMod, in their order.
func TestPowModFaults(t *testing.T) {
	for _, a := range []int{0, 2, -2} {
		powMod.expect(t, small(a, -1, 5), fault(api.ErrRange, -2))
		powMod.expect(t, small(a, -1, -5), fault(api.ErrRange, -2))
		powMod.expect(t, small(a, -1, 0), fault(api.ErrRange, -2))
		powMod.expect(t, small(a, 1, -5), fault(api.ErrRange, -3))
		powMod.expect(t, small(a, 0, -1), fault(api.ErrRange, -3))
		powMod.expect(t, small(a, 1, 0), fault(api.ErrZero, -3))
		powMod.expect(t, small(a, 0, 0), fault(api.ErrZero, -3))
	}
	powMod.expectForms(t, 3)
	bad := api.Int{Limbs: []uint32{0}}
	powMod.expect(t, []api.Int{integer.Of(2), integer.Of(-1), bad}, form(3))
	powMod.expect(t, []api.Int{integer.Of(2), bad, {}}, form(2))
	powMod.expect(t, []api.Int{bad, integer.Of(-1), {}}, form(1))
}
