package integer_test

import (
	"math/big"
	"testing"

	"brindlewood/api"
	"brindlewood/integer"
)

// shift is a call of Shift by a number of bits.
func shift(n int) call { return byInt(integer.Shift, n) }

// R2.4: Shift, whose result is rounded down for negative integers too.
func TestShift(t *testing.T) {
	for _, a := range numbers(30) {
		for _, n := range []int{0, 1, 2, 31, 32, 33, 64, 95, api.MaxBits - 1, api.MaxBits, api.MaxBits + 1} {
			shift(-n).expect(t, ints(a), noFault, new(big.Int).Rsh(a, uint(n)))
			shift(n).expectLimited(t, new(big.Int).Lsh(a, uint(n)), a)
		}
		room := api.MaxBits - a.BitLen()
		shift(room).expect(t, ints(a), noFault, new(big.Int).Lsh(a, uint(room)))
		if a.Sign() != 0 {
			shift(room+1).expect(t, ints(a), tooLarge)
		}
	}
	for _, c := range [][3]int{{-5, -1, -3}, {5, -1, 2}, {-4, -2, -1}, {-4, -3, -1}, {4, -3, 0}, {-1, -1, -1}, {-3, 2, -12}} {
		shift(c[1]).expect(t, small(c[0]), noFault, big.NewInt(int64(c[2])))
	}
}

// R2.4: Shift by numbers of bits beyond all limits.
func TestShiftFar(t *testing.T) {
	for _, n := range []int{api.MaxBits, 32 * api.MaxNatural, 32*api.MaxNatural + 1, 1 << 40, maxInt - 1, maxInt} {
		for _, a := range numbers(0) {
			if a.Sign() == 0 {
				shift(n).expect(t, ints(a), noFault, a)
				shift(-n).expect(t, ints(a), noFault, a)
				continue
			}
			sign := big.NewInt(0)
			if a.Sign() < 0 {
				sign.SetInt64(-1)
			}
			shift(n).expect(t, ints(a), tooLarge)
			shift(-n).expect(t, ints(a), noFault, sign)
			shift(minInt).expect(t, ints(a), noFault, sign)
		}
	}
	for _, n := range []int{0, 1, -1, minInt, maxInt} {
		shift(n).expectForms(t, 1)
	}
}

// R2.4: And, Or and Xor.
func TestAndOrXor(t *testing.T) {
	pairs(func(a, b *big.Int) {
		two(integer.And).expectLimited(t, new(big.Int).And(a, b), a, b)
		two(integer.Or).expectLimited(t, new(big.Int).Or(a, b), a, b)
		two(integer.Xor).expectLimited(t, new(big.Int).Xor(a, b), a, b)
	})
	for _, f := range []call{two(integer.And), two(integer.Or), two(integer.Xor)} {
		f.expectForms(t, 2)
	}
}

// R2.4: And, Or and Xor of small numbers, whose results Go's own operators give.
func TestAndOrXorOfSmall(t *testing.T) {
	list := []int{0, 1, 2, 5, 6, 255, 256, 1<<32 - 1, 1 << 32, 1<<32 + 1, maxInt, -1, -2, -4, -255, -256, -1 << 31, -1 << 32, -1<<32 - 1, minInt, minInt + 1}
	for _, a := range list {
		for _, b := range list {
			two(integer.And).expect(t, small(a, b), noFault, big.NewInt(int64(a&b)))
			two(integer.Or).expect(t, small(a, b), noFault, big.NewInt(int64(a|b)))
			two(integer.Xor).expect(t, small(a, b), noFault, big.NewInt(int64(a^b)))
		}
		one(integer.Not).expect(t, small(a), noFault, big.NewInt(int64(^a)))
	}
}

// R2.4: -2^4096 has one limb more than the largest integers.
func TestBitsTooLarge(t *testing.T) {
	two(integer.And).expect(t, ints(least, big.NewInt(-2)), tooLarge)
	two(integer.And).expect(t, ints(least, least), noFault, least)
	two(integer.Xor).expect(t, ints(least, big.NewInt(1)), tooLarge)
	two(integer.Xor).expect(t, ints(least, big.NewInt(2)), noFault, new(big.Int).Add(least, big.NewInt(2)))
	two(integer.Xor).expect(t, ints(greatest, big.NewInt(-1)), tooLarge)
	two(integer.Or).expect(t, ints(least, big.NewInt(-2)), noFault, big.NewInt(-1))
	two(integer.Or).expect(t, ints(least, greatest), noFault, big.NewInt(-1))
	one(integer.Not).expect(t, ints(greatest), tooLarge)
	one(integer.Not).expect(t, ints(least), noFault, power(api.MaxBits, -2))
}

// R2.4: Not.
func TestNot(t *testing.T) {
	for _, a := range numbers(50) {
		one(integer.Not).expectLimited(t, new(big.Int).Not(a), a)
	}
	one(integer.Not).expectForms(t, 1)
	one(integer.Not).expect(t, small(0), noFault, big.NewInt(-1))
	one(integer.Not).expect(t, small(-1), noFault, new(big.Int))
}
