package rational_test

import (
	"math/big"
	"testing"

	"brindlewood/api"
	"brindlewood/rational"
)

// makeCall is a call of Make.
var makeCall = call(func(a []api.Int) ([]api.Int, api.Fault) {
	result, fault := rational.Make(a[0], a[1])
	return parts(result), fault
})

// R3.1: Valid.
func TestValid(t *testing.T) {
	valid := func(x api.Ratio) bool {
		given := []api.Int{withSpare(x.Num), withSpare(x.Den)}
		before := copied(memory(given))
		result := rational.Valid(ratio(given))
		if !same(memory(given), before) {
			t.Errorf("%s was changed", brief(x))
		}
		return result
	}
	for _, x := range append(edges(), randoms(100)...) {
		if !valid(toRatio(x)) {
			t.Errorf("%s is not valid", brief(x))
		}
	}
	for _, x := range invalid() {
		if valid(x) {
			t.Errorf("%s is valid", brief(x))
		}
	}
	zero := api.Ratio{Num: api.Int{Limbs: []uint32{}}, Den: api.Int{Limbs: []uint32{1}}}
	if !rational.Valid(zero) {
		t.Error("0 with an empty list of limbs is not valid")
	}
}

// R3.1: a numerator or a denominator may have MaxLimbs limbs, and not one more.
func TestValidLimits(t *testing.T) {
	for _, x := range []*big.Rat{whole(greatest()), over(big.NewInt(1), greatest()), over(minus(greatest()), big.NewInt(2))} {
		if !rational.Valid(toRatio(x)) {
			t.Errorf("%s is not valid", brief(x))
		}
	}
	more := power(api.MaxBits, 0)
	for _, x := range []*big.Rat{whole(more), whole(minus(more)), over(big.NewInt(1), more), over(more, big.NewInt(3)), over(more, power(api.MaxBits, 1))} {
		if rational.Valid(toRatio(x)) {
			t.Errorf("%s is valid", brief(x))
		}
	}
}

// R3.1: Make, with denominators of both signs.
func TestMake(t *testing.T) {
	var list []*big.Int
	for _, n := range []int64{0, 1, 2, 3, 4, 6, 12, 1 << 40, 9699690, -1, -2, -4, -6, -12, -9699690} {
		list = append(list, big.NewInt(n))
	}
	for _, n := range []int{32, 64, api.MaxBits / 2, api.MaxBits - 1} {
		list = append(list, power(n, 0), power(n, -1), minus(power(n, 1)))
	}
	list = append(list, greatest(), minus(greatest()), new(big.Int).Mul(power(2000, 1), power(2050, -1)), new(big.Int).Mul(power(2000, 1), power(2049, -3)))
	for _, num := range list {
		for _, den := range list {
			arguments := []api.Int{toInt(num), toInt(den)}
			if den.Sign() == 0 {
				makeCall.expectInts(t, arguments, fault(api.ErrZero, -2))
				continue
			}
			makeCall.expect(t, arguments, over(num, den))
		}
	}
}

// R3.1: what the limbs of some ratios are.
func TestMakeOfSmall(t *testing.T) {
	for _, c := range []struct{ num, den, wantNum, wantDen int64 }{
		{6, -4, -3, 2}, {-6, -4, 3, 2}, {-6, 4, -3, 2}, {6, 4, 3, 2}, {0, -5, 0, 1}, {0, 5, 0, 1}, {0, -1, 0, 1},
		{5, 5, 1, 1}, {5, -5, -1, 1}, {-5, -1, 5, 1}, {7, 1, 7, 1}, {1, 7, 1, 7}, {-1, -7, 1, 7},
	} {
		makeCall.expectInts(t, []api.Int{toInt(big.NewInt(c.num)), toInt(big.NewInt(c.den))}, noFault, big.NewInt(c.wantNum), big.NewInt(c.wantDen))
	}
}

// R3.1: the faults of Make, in their order.
func TestMakeFaults(t *testing.T) {
	for _, bad := range invalidInts() {
		for _, other := range append(invalidInts(), api.Int{}, api.Int{Limbs: []uint32{3}}) {
			makeCall.expectInts(t, []api.Int{bad, other}, form(1))
		}
		for _, n := range []int64{0, 1, -5} {
			makeCall.expectInts(t, []api.Int{toInt(big.NewInt(n)), bad}, form(2))
		}
	}
	for _, n := range []int64{0, 1, -5} {
		makeCall.expectInts(t, []api.Int{toInt(big.NewInt(n)), {}}, fault(api.ErrZero, -2))
	}
}
