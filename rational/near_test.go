package rational_test

import (
	"math/big"
	"slices"
	"testing"

	"brindlewood/api"
	"brindlewood/rational"
)

// The calls of R3.3; the last integer of nearest is the greatest denominator.
var (
	floor = call(func(a []api.Int) ([]api.Int, api.Fault) {
		whole, rest, fault := rational.Floor(ratio(a))
		return []api.Int{whole, rest.Num, rest.Den}, fault
	})
	round = call(func(a []api.Int) ([]api.Int, api.Fault) {
		result, fault := rational.Round(ratio(a))
		return []api.Int{result}, fault
	})
	terms = call(func(a []api.Int) ([]api.Int, api.Fault) { return rational.Terms(ratio(a)) })

	nearest = call(func(a []api.Int) ([]api.Int, api.Fault) {
		result, fault := rational.Nearest(ratio(a), a[2])
		return parts(result), fault
	})
)

// floorOf returns the greatest integer that is not greater than a ratio.
func floorOf(x *big.Rat) *big.Int {
	// The denominator is positive, so the Euclidean quotient is the one that is rounded down.
	return new(big.Int).Div(x.Num(), x.Denom())
}

// fraction returns the ratio with a continued fraction.
func fraction(list []*big.Int) *big.Rat {
	x := whole(list[len(list)-1])
	for i := len(list) - 2; i >= 0; i-- {
		x = new(big.Rat).Add(whole(list[i]), x.Inv(x))
	}
	return x
}

// bigs converts ints.
func bigs(list ...int64) []*big.Int {
	var result []*big.Int
	for _, n := range list {
		result = append(result, big.NewInt(n))
	}
	return result
}

// R3.3: Floor, whose rest is never negative.
func TestFloor(t *testing.T) {
	for _, x := range append(edges(), randoms(100)...) {
		want := floorOf(x)
		rest := new(big.Rat).Sub(x, whole(want))
		floor.expectInts(t, ratios(x), noFault, want, rest.Num(), rest.Denom())
	}
	for _, c := range []struct{ num, den, whole, restNum, restDen int64 }{
		{7, 2, 3, 1, 2}, {-7, 2, -4, 1, 2}, {-7, 3, -3, 2, 3}, {7, 3, 2, 1, 3}, {-1, 5, -1, 4, 5}, {1, 5, 0, 1, 5}, {0, 1, 0, 0, 1}, {-4, 1, -4, 0, 1}, {4, 1, 4, 0, 1},
	} {
		floor.expectInts(t, ratios(rat(c.num, c.den)), noFault, bigs(c.whole, c.restNum, c.restDen)...)
	}
	floor.expectForms(t, 1)
}

// R3.3: Round; halves go to the even integer.
func TestRound(t *testing.T) {
	for _, c := range [][3]int64{
		{1, 2, 0}, {3, 2, 2}, {5, 2, 2}, {7, 2, 4}, {-1, 2, 0}, {-3, 2, -2}, {-5, 2, -2}, {-7, 2, -4},
		{1, 3, 0}, {2, 3, 1}, {4, 3, 1}, {5, 3, 2}, {-1, 3, 0}, {-2, 3, -1}, {-4, 3, -1}, {-5, 3, -2},
		{49, 100, 0}, {51, 100, 1}, {-49, 100, 0}, {-51, 100, -1}, {149, 100, 1}, {-149, 100, -1}, {0, 1, 0}, {3, 1, 3}, {-3, 1, -3}, {1<<33 + 1, 2, 1 << 32},
	} {
		round.expectInts(t, ratios(rat(c[0], c[1])), noFault, big.NewInt(c[2]))
	}
	half := rat(1, 2)
	for _, x := range append(edges(), randoms(100)...) {
		want := floorOf(new(big.Rat).Add(x, half))
		if tie := new(big.Rat).Sub(whole(want), x); tie.Cmp(half) == 0 && want.Bit(0) == 1 {
			want.Sub(want, big.NewInt(1))
		}
		round.expectInts(t, ratios(x), noFault, want)
	}
	// Twice what is left has one limb more than the largest integers.
	round.expectInts(t, ratios(over(power(api.MaxBits, -2), greatest())), noFault, big.NewInt(1))
	round.expectInts(t, ratios(over(power(api.MaxBits-1, 0), greatest())), noFault, big.NewInt(1))
	round.expectInts(t, ratios(over(power(api.MaxBits-1, -1), greatest())), noFault, big.NewInt(0))
	round.expectInts(t, ratios(over(minus(greatest()), big.NewInt(2))), noFault, minus(power(api.MaxBits-1, 0)))
	round.expectForms(t, 1)
}

// R3.3: Terms of small ratios.
func TestTermsOfSmall(t *testing.T) {
	for _, c := range []struct {
		x    *big.Rat
		want []*big.Int
	}{
		{rat(7, 3), bigs(2, 3)}, {rat(-7, 3), bigs(-3, 1, 2)}, {rat(0, 1), bigs(0)}, {rat(5, 1), bigs(5)}, {rat(-5, 1), bigs(-5)},
		{rat(1, 2), bigs(0, 2)}, {rat(-1, 2), bigs(-1, 2)}, {rat(1, 7), bigs(0, 7)}, {rat(-1, 7), bigs(-1, 1, 6)}, {rat(3, 2), bigs(1, 2)}, {rat(355, 113), bigs(3, 7, 16)}, {rat(-43, 30), bigs(-2, 1, 1, 3, 4)},
	} {
		terms.expectInts(t, ratios(c.x), noFault, c.want...)
	}
	terms.expectForms(t, 1)
}

// R3.3: Terms are those from which a ratio was made; there are at most MaxTerms.
func TestTerms(t *testing.T) {
	large := power(2000, 7)
	for _, first := range append(bigs(0, 1, 5, -1, -2, -9), large, minus(large)) {
		list := []*big.Int{first}
		for i := range 30 {
			list = append(list, big.NewInt(int64(i*i*i%11+1)))
			ended := append(slices.Clone(list), big.NewInt(int64(i+2)))
			terms.expectInts(t, ratios(fraction(ended)), noFault, ended...)
		}
		list = append(list, power(1500, 0), big.NewInt(2))
		terms.expectInts(t, ratios(fraction(list)), noFault, list...)
	}
	ones := slices.Repeat(bigs(1), api.MaxTerms-1)
	for _, first := range bigs(1, 0, -1, 77) {
		ones[0] = first
		most := append(slices.Clone(ones), big.NewInt(2))
		terms.expectInts(t, ratios(fraction(most)), noFault, most...)
		more := append(slices.Clone(ones), bigs(1, 2)...)
		terms.expectInts(t, ratios(fraction(more)), fault(api.ErrTooMany, -1))
	}
	twos := append(slices.Repeat(bigs(2), 4*api.MaxTerms), big.NewInt(3))
	for _, x := range withSigns([]*big.Rat{fraction(twos[:api.MaxTerms+1]), fraction(twos[:3*api.MaxTerms])}) {
		terms.expectInts(t, ratios(x), fault(api.ErrTooMany, -1))
	}
	terms.expectInts(t, ratios(whole(minus(greatest()))), noFault, minus(greatest()))
	terms.expectInts(t, ratios(over(big.NewInt(1), greatest())), noFault, big.NewInt(0), greatest())
}

// better reports whether a is nearer to x than b or takes its place among equally near ones.
func better(x, a, b *big.Rat) bool {
	first, second := new(big.Rat).Sub(x, a), new(big.Rat).Sub(x, b)
	if order := first.Abs(first).Cmp(second.Abs(second)); order != 0 {
		return order < 0
	}
	if order := a.Denom().Cmp(b.Denom()); order != 0 {
		return order < 0
	}
	return a.Cmp(b) < 0
}

// bestOf returns the best one of some ratios.
func bestOf(x *big.Rat, list []*big.Rat) *big.Rat {
	best := list[0]
	for _, other := range list[1:] {
		if better(x, other, best) {
			best = other
		}
	}
	return best
}

// R3.3: Nearest of small ratios is the best one among all with denominators that are permitted.
func TestNearestOfSmall(t *testing.T) {
	for den := range int64(41) {
		for num := -3 * den / 2; num <= 3*den/2; num++ {
			x := new(big.Rat)
			if den > 0 {
				x.SetFrac64(num, den)
			}
			best := whole(floorOf(x))
			for most := int64(1); most <= den+1; most++ {
				low := floorOf(new(big.Rat).Mul(x, rat(most, 1))).Int64()
				best = bestOf(x, []*big.Rat{best, rat(low, most), rat(low+1, most)})
				nearest.expect(t, append(ratios(x), toInt(big.NewInt(most))), best)
			}
		}
	}
	for _, c := range []struct {
		x    *big.Rat
		most int64
		want *big.Rat
	}{
		{rat(355, 113), 10, rat(22, 7)}, {rat(355, 113), 112, rat(333, 106)}, {rat(355, 113), 113, rat(355, 113)}, {rat(355, 113), 114, rat(355, 113)}, {rat(-355, 113), 10, rat(-22, 7)},
		{rat(1, 2), 1, rat(0, 1)}, {rat(-1, 2), 1, rat(-1, 1)}, {rat(3, 2), 1, rat(1, 1)}, {rat(-3, 2), 1, rat(-2, 1)}, {rat(1, 2), 2, rat(1, 2)},
		{rat(1, 4), 2, rat(0, 1)}, {rat(1, 4), 3, rat(1, 3)}, {rat(3, 4), 2, rat(1, 1)}, {rat(-1, 4), 2, rat(0, 1)}, {rat(-3, 4), 2, rat(-1, 1)}, {rat(0, 1), 1, rat(0, 1)}, {rat(-9, 1), 1, rat(-9, 1)}, {rat(-9, 1), 500, rat(-9, 1)},
	} {
		nearest.expect(t, append(ratios(c.x), toInt(big.NewInt(c.most))), c.want)
	}
}

// candidates returns ratios with denominators of at most most, among them the nearest ones: the convergents, and those beside them that go furthest.
func candidates(x *big.Rat, most *big.Int) []*big.Rat {
	list := []*big.Rat{whole(floorOf(x))}
	oldNum, oldDen, num, den := big.NewInt(1), new(big.Int), floorOf(x), big.NewInt(1)
	for rest := new(big.Rat).Sub(x, whole(num)); rest.Sign() != 0 && den.Cmp(most) <= 0; {
		rest.Inv(rest)
		term := floorOf(rest)
		rest.Sub(rest, whole(term))
		times := new(big.Int).Sub(most, oldDen)
		if times.Div(times, den).Cmp(term) > 0 {
			times = term
		}
		nextNum, nextDen := new(big.Int).Mul(times, num), new(big.Int).Mul(times, den)
		nextNum.Add(nextNum, oldNum)
		nextDen.Add(nextDen, oldDen)
		if nextDen.Sign() > 0 {
			list = append(list, over(nextNum, nextDen))
		}
		if times != term {
			// The next convergent is beyond most.
			break
		}
		oldNum, oldDen, num, den = num, den, nextNum, nextDen
	}
	return list
}

// R3.3: Nearest of large ratios, with bounds of all sizes.
func TestNearest(t *testing.T) {
	for _, x := range append(edges(), randoms(25)...) {
		den := x.Denom()
		bounds := []*big.Int{big.NewInt(1), big.NewInt(2), big.NewInt(1000), power(70, 3), new(big.Int).Rsh(den, 40), new(big.Int).Rsh(den, 1), new(big.Int).Sub(den, big.NewInt(1)), den, greatest()}
		for _, most := range bounds {
			if most.Sign() <= 0 {
				continue
			}
			want := bestOf(x, candidates(x, most))
			nearest.expect(t, append(ratios(x), toInt(most)), want)
		}
	}
}

// R3.3: Nearest where the terms of the ratio and what is computed with them are as large as can be.
func TestNearestLimits(t *testing.T) {
	unit := big.NewInt(1)
	for _, x := range withSigns([]*big.Rat{
		over(greatest(), big.NewInt(2)), over(greatest(), power(api.MaxBits-1, 0)), over(power(api.MaxBits, -2), greatest()),
		over(unit, greatest()), over(power(api.MaxBits-1, 0), greatest()), whole(greatest()), over(greatest(), power(api.MaxBits/2, 0)),
	}) {
		den := x.Denom()
		nearest.expect(t, append(ratios(x), toInt(den)), x)
		nearest.expect(t, append(ratios(x), toInt(greatest())), x)
		if den.Cmp(unit) > 0 {
			below := new(big.Int).Sub(den, unit)
			nearest.expect(t, append(ratios(x), toInt(below)), bestOf(x, candidates(x, below)))
		}
		low := whole(floorOf(x))
		high := new(big.Rat).Add(low, rat(1, 1))
		nearest.expect(t, append(ratios(x), toInt(unit)), bestOf(x, []*big.Rat{low, high}))
	}
}

// R3.3: the faults of Nearest, in their order.
func TestNearestFaults(t *testing.T) {
	for _, x := range []*big.Rat{rat(0, 1), rat(22, 7), rat(-1, 2), whole(greatest())} {
		for _, most := range append(bigs(0, -1, -7, minInt), minus(greatest())) {
			nearest.expectInts(t, append(ratios(x), toInt(most)), fault(api.ErrRange, -2))
		}
		for _, bad := range invalidInts() {
			nearest.expectInts(t, append(ratios(x), bad), form(2))
		}
	}
	nearest.expectForms(t, 1, toInt(big.NewInt(5)))
	nearest.expectForms(t, 1, api.Int{})
	nearest.expectForms(t, 1, api.Int{Neg: true})
}
