package decimal_test

import (
	"math/big"
	"math/rand"
	"testing"

	"brindlewood/api"
	"brindlewood/decimal"
)

// The calls of R4.2 and R4.3.
var (
	add = two(decimal.Add)
	sub = two(decimal.Sub)
	mul = two(decimal.Mul)
	div = two(decimal.Div)
	rem = two(decimal.Rem)
	fma = call(func(a []api.Decimal, c api.Context) (api.Decimal, int, api.Fault) {
		return decimal.Fma(a[0], a[1], a[2], c)
	})
)

// Short names of signals.
const (
	inexact   = api.SignalInexact
	subnormal = api.SignalSubnormal
	underflow = api.SignalInexact + api.SignalSubnormal + api.SignalUnderflow
	overflow  = api.SignalInexact + api.SignalOverflow
)

// sumOf returns what the sum of two finite numbers is, each given by its value, its sign and its exponent.
func sumOf(a, b *big.Rat, aNeg, bNeg bool, aExp, bExp int, c api.Context) (string, int) {
	zeroNeg := aNeg
	if aNeg != bNeg {
		zeroNeg = c.Rounding == api.RoundFloor
	}
	return fittedRatio(new(big.Rat).Add(a, b), zeroNeg, min(aExp, bExp), c)
}

// truncated returns a ratio, rounded toward 0.
func truncated(x *big.Rat) *big.Rat {
	return new(big.Rat).SetInt(new(big.Int).Quo(x.Num(), x.Denom()))
}

// expectTwo checks the calls with two finite decimals.
func expectTwo(t *testing.T, a, b api.Decimal, c api.Context) {
	t.Helper()
	both := []api.Decimal{a, b}
	x, y, neg := valueOf(a), valueOf(b), a.Neg != b.Neg
	want, signals := sumOf(x, y, a.Neg, b.Neg, a.Exp, b.Exp, c)
	add.expect(t, both, c, want, signals)
	want, signals = sumOf(x, new(big.Rat).Neg(y), a.Neg, !b.Neg, a.Exp, b.Exp, c)
	sub.expect(t, both, c, want, signals)
	want, signals = fittedRatio(new(big.Rat).Mul(x, y), neg, a.Exp+b.Exp, c)
	mul.expect(t, both, c, want, signals)
	if y.Sign() == 0 {
		return
	}
	quotient := new(big.Rat).Quo(x, y)
	want, signals = fittedRatio(quotient, neg, a.Exp-b.Exp, c)
	div.expect(t, both, c, want, signals)
	rest := new(big.Rat).Sub(x, new(big.Rat).Mul(truncated(quotient), y))
	want, signals = fittedRatio(rest, a.Neg, min(a.Exp, b.Exp), c)
	rem.expect(t, both, c, want, signals)
}

// R4.2, R4.3: finite decimals at the limits, with all kinds of rounding.
func TestTwoOfEdges(t *testing.T) {
	list, all := edges(), contexts()
	for i, a := range list {
		for k := range list {
			b := list[(i*3+k*11)%len(list)]
			if k < 16 && isFinite(a, b) {
				expectTwo(t, a, b, all[(i*37+k*17)%len(all)])
			}
		}
		if isFinite(a) {
			for k := range api.RoundingKinds {
				expectTwo(t, a, a, wide(7, k))
			}
		}
	}
}

// R4.2, R4.3: random finite decimals.
func TestTwoOfRandoms(t *testing.T) {
	source := rand.New(rand.NewSource(2))
	all := contexts()
	for range 4000 {
		a, b := random(source), random(source)
		if source.Intn(3) == 0 {
			b.Exp = max(-api.MaxPower, min(api.MaxPower, a.Exp+source.Intn(9)-4))
		}
		expectTwo(t, a, b, all[source.Intn(len(all))])
	}
}

// R4.2: Fma of finite decimals.
func TestFma(t *testing.T) {
	source := rand.New(rand.NewSource(3))
	list, all := edges(), contexts()
	for i := range 4000 {
		a, b, d := random(source), random(source), random(source)
		if i%3 == 0 {
			a, b, d = list[source.Intn(len(list))], list[source.Intn(len(list))], list[source.Intn(len(list))]
		}
		if !isFinite(a, b, d) {
			continue
		}
		c := all[source.Intn(len(all))]
		product := new(big.Rat).Mul(valueOf(a), valueOf(b))
		want, signals := sumOf(product, valueOf(d), a.Neg != b.Neg, d.Neg, a.Exp+b.Exp, d.Exp, c)
		fma.expect(t, []api.Decimal{a, b, d}, c, want, signals)
	}
}

// R4.2: Fma rounds once.
func TestFmaRoundsOnce(t *testing.T) {
	c := wide(3, api.RoundHalfEven)
	fma.expect(t, decs("123E-1", "45E0", "-553E0"), c, "5E-1", 0)
	fma.expect(t, decs("999E0", "999E0", "-998E3"), c, "1E0", 0)
	fma.expect(t, decs("5E0", "5E0", "1E2"), c, "125E0", 0)
	fma.expect(t, decs("15E0", "1005E-1", "0E0"), c, "151E1", inexact)
	fma.expect(t, decs("1E1200", "1E1200", "-1E1200"), c, "infinite", overflow)
	fma.expect(t, decs("1E-1200", "-1E-1200", "1E1"), c, "100E-1", inexact)
	fma.expect(t, decs("1E-1200", "-1E-1200", "1E1"), wide(3, api.RoundDown), "999E-2", inexact)
	fma.expect(t, decs("1E1200", "1E-1200", "-1E0"), c, "0E0", 0)
	top := "9E1200"
	fma.expect(t, decs(top, "-"+top, nines(api.MaxCoef)+"E-1200"), wide(3, api.RoundDown), "-999E997", overflow)
	fma.expect(t, decs("9E-1200", "9E-1200", nines(api.MaxCoef)+"E1200"), wide(60, api.RoundDown), nines(60)+"E940", overflow)
}

// R4.2: the example of the chapter, and the sum with all kinds of rounding.
func TestAddOfSmall(t *testing.T) {
	for rounding, want := range []string{"120E-2", "121E-2", "120E-2", "121E-2", "121E-2", "120E-2", "120E-2"} {
		add.expect(t, decs("120E-2", "5E-3"), wide(3, rounding), want, inexact)
		sub.expect(t, decs("120E-2", "-5E-3"), wide(3, rounding), want, inexact)
		fma.expect(t, decs("12E-1", "1E0", "5E-3"), wide(3, rounding), want, inexact)
	}
	c := wide(5, api.RoundHalfEven)
	add.expect(t, decs("1E0", "2E0"), c, "3E0", 0)
	add.expect(t, decs("1E0", "20E-1"), c, "30E-1", 0)
	add.expect(t, decs("1E3", "1E-1"), c, "10001E-1", 0)
	add.expect(t, decs("1E3", "0E-1"), c, "10000E-1", 0)
	add.expect(t, decs("1E3", "0E-900"), c, "10000E-1", 0)
	add.expect(t, decs("1E3", "0E5"), c, "1E3", 0)
	add.expect(t, decs("1E5", "0E3"), c, "100E3", 0)
	add.expect(t, decs("1E5", "-1E5"), c, "0E5", 0)
	sub.expect(t, decs("1E0", "10E-1"), c, "0E-1", 0)
	mul.expect(t, decs("12E-1", "-50E0"), c, "-600E-1", 0)
	mul.expect(t, decs("0E-3", "-50E1"), c, "-0E-2", 0)
}

// R4.2: exact sums that are 0, with all kinds of rounding.
func TestZeroSums(t *testing.T) {
	for rounding := range api.RoundingKinds {
		c, mixed := wide(4, rounding), "0E-2"
		if rounding == api.RoundFloor {
			mixed = "-0E-2"
		}
		for _, texts := range [][2]string{{"0E0", "-0E-2"}, {"-0E-2", "0E3"}, {"7E0", "-700E-2"}, {"-70E-1", "700E-2"}} {
			add.expect(t, decs(texts[:]...), c, mixed, 0)
			fma.expect(t, decs(texts[0], "1E0", texts[1]), c, mixed, 0)
			fma.expect(t, decs("-1E0", negated(texts[0]), texts[1]), c, mixed, 0)
			sub.expect(t, decs(texts[0], negated(texts[1])), c, mixed, 0)
		}
		add.expect(t, decs("0E0", "0E-2"), c, "0E-2", 0)
		add.expect(t, decs("-0E-2", "-0E0"), c, "-0E-2", 0)
		sub.expect(t, decs("0E-2", "-0E0"), c, "0E-2", 0)
		sub.expect(t, decs("-0E0", "0E-2"), c, "-0E-2", 0)
		fma.expect(t, decs("0E3", "-5E-1", "-0E-2"), c, "-0E-2", 0)
		fma.expect(t, decs("0E-3", "-5E1", "0E7"), c, mixed, 0)
		fma.expect(t, decs("0E-3", "-5E1", "30E-1"), c, "300E-2", 0)
	}
	add.expect(t, decs("0E-1200", "0E1200"), wide(4, 0), "0E-1002", 0)
	add.expect(t, decs("0E1200", "0E1200"), wide(4, 0), "0E999", 0)
	mul.expect(t, decs("0E1200", "-0E1200"), wide(4, 0), "-0E999", 0)
	fma.expect(t, decs("0E1200", "0E1200", "-0E1100"), wide(4, api.RoundFloor), "-0E999", 0)
}

// negated returns the text of a decimal with the other sign.
func negated(text string) string {
	x := dec(text)
	x.Neg = !x.Neg
	return show(x)
}

// R4.2: sums of exponents that are far apart.
func TestFarSums(t *testing.T) {
	for rounding, want := range []string{"10000E-4", "10001E-4", "10000E-4", "10001E-4", "10000E-4", "10000E-4", "10000E-4"} {
		add.expect(t, decs("1E0", "1E-1200"), wide(5, rounding), want, inexact)
		add.expect(t, decs("3E-1200", "1E0"), wide(5, rounding), want, inexact)
	}
	for rounding, want := range []string{"99999E-5", "10000E-4", "99999E-5", "10000E-4", "10000E-4", "10000E-4", "10000E-4"} {
		add.expect(t, decs("1E0", "-1E-1200"), wide(5, rounding), want, inexact)
		sub.expect(t, decs("1E0", "9E-1200"), wide(5, rounding), want, inexact)
	}
	add.expect(t, decs("1E1200", "1E-1200"), wide(5, api.RoundHalfUp), "infinite", overflow)
	add.expect(t, decs("-1E1200", "1E-1200"), wide(5, api.RoundHalfUp), "-infinite", overflow)
	add.expect(t, decs("-1E1200", "1E-1200"), wide(5, api.RoundDown), "-99999E995", overflow)
	add.expect(t, decs("1E999", "1E-1200"), wide(2, api.RoundFloor), "10E998", inexact)
}

// R4.2: infinite operands and none.
func TestAddMulOfOthers(t *testing.T) {
	for _, c := range []api.Context{wide(5, api.RoundHalfEven), {Precision: 1, Rounding: api.RoundFloor}} {
		for _, x := range []string{"0E0", "-0E5", "3E0", "-3E-1200", nines(api.MaxCoef) + "E1200"} {
			for _, side := range []string{"infinite", "-infinite"} {
				add.expect(t, decs(x, side), c, side, 0)
				add.expect(t, decs(side, x), c, side, 0)
				sub.expect(t, decs(side, x), c, side, 0)
				sub.expect(t, decs(x, negated(side)), c, side, 0)
				fma.expect(t, decs(x, "2E0", side), c, side, 0)
				fma.expect(t, decs("1E0", side, x), c, side, 0)
			}
			for _, f := range []call{add, sub, mul, div, rem} {
				f.expect(t, decs(x, "none"), c, "none", 0)
				f.expect(t, decs("none", x), c, "none", 0)
			}
			fma.expect(t, decs(x, "2E0", "none"), c, "none", 0)
			fma.expect(t, decs("none", x, x), c, "none", 0)
			fma.expect(t, decs(x, "none", "infinite"), c, "none", 0)
		}
		for _, side := range []string{"infinite", "-infinite"} {
			add.expect(t, decs(side, side), c, side, 0)
			sub.expect(t, decs(side, negated(side)), c, side, 0)
			add.expect(t, decs(side, negated(side)), c, "none", api.SignalInvalid)
			sub.expect(t, decs(side, side), c, "none", api.SignalInvalid)
			for _, f := range []call{add, sub, mul, div, rem} {
				f.expect(t, decs(side, "none"), c, "none", 0)
				f.expect(t, decs("none", side), c, "none", 0)
				f.expect(t, decs("none", "none"), c, "none", 0)
			}
			for _, x := range []string{"7E0", "1E-1200", "infinite"} {
				for _, pair := range [][2]string{{x, side}, {side, x}} {
					mul.expect(t, decs(pair[:]...), c, side, 0)
					mul.expect(t, decs(negated(pair[0]), pair[1]), c, negated(side), 0)
					mul.expect(t, decs(negated(pair[0]), negated(pair[1])), c, side, 0)
				}
			}
			for _, zero := range []string{"0E0", "-0E0", "0E1200"} {
				mul.expect(t, decs(side, zero), c, "none", api.SignalInvalid)
				mul.expect(t, decs(zero, side), c, "none", api.SignalInvalid)
			}
		}
	}
}

// R4.2: Fma with infinite operands and none goes in two steps.
func TestFmaOfOthers(t *testing.T) {
	c := wide(5, api.RoundFloor)
	for _, row := range []struct {
		a, b, d, want string
		signals       int
	}{
		{"infinite", "0E0", "1E0", "none", api.SignalInvalid}, {"0E0", "-infinite", "none", "none", api.SignalInvalid}, {"infinite", "-0E7", "infinite", "none", api.SignalInvalid},
		{"infinite", "2E0", "-infinite", "none", api.SignalInvalid}, {"infinite", "-2E0", "infinite", "none", api.SignalInvalid}, {"-infinite", "-infinite", "-infinite", "none", api.SignalInvalid},
		{"infinite", "2E0", "infinite", "infinite", 0}, {"-2E0", "infinite", "-infinite", "-infinite", 0}, {"infinite", "-infinite", "5E0", "-infinite", 0},
		{"infinite", "2E0", "none", "none", 0}, {"none", "infinite", "infinite", "none", 0}, {"none", "0E0", "1E0", "none", 0}, {"infinite", "none", "-infinite", "none", 0},
		{"none", "none", "none", "none", 0}, {"0E0", "0E0", "none", "none", 0}, {"0E0", "2E0", "-infinite", "-infinite", 0},
		{"1E1200", "1E1200", "-infinite", "-infinite", 0}, {"-1E1200", "1E1200", "infinite", "infinite", 0},
	} {
		fma.expect(t, decs(row.a, row.b, row.d), c, row.want, row.signals)
	}
}

// R4.3: quotients of 0, by 0, of and by infinite numbers, and some others.
func TestDivOfSmall(t *testing.T) {
	c := api.Context{Precision: 5, Rounding: api.RoundHalfEven, Min: -9, Max: 9}
	for _, row := range []struct {
		a, b, want string
		signals    int
	}{
		{"1E0", "8E0", "125E-3", 0}, {"6E0", "2E0", "3E0", 0}, {"600E0", "2E0", "300E0", 0}, {"6E2", "2E0", "3E2", 0}, {"6E0", "20E-1", "3E0", 0}, {"60E0", "20E-1", "3E1", 0}, {"6E0", "2E3", "3E-3", 0},
		{"1E0", "3E0", "33333E-5", inexact}, {"2E0", "3E0", "66667E-5", inexact}, {"-2E0", "3E0", "-66667E-5", inexact}, {"2E0", "-3E-9", "-66667E4", inexact}, {"1E0", "4000E0", "25E-5", 0},
		{"999995E0", "1E0", "10000E2", inexact}, {"999985E0", "1E0", "99998E1", inexact}, {"12345E4", "1E-2", "infinite", overflow}, {"12345E4", "-1E-1", "-12345E5", 0},
		{"1E-9", "3E0", "3333E-13", underflow}, {"1E-9", "4E0", "25E-11", subnormal}, {"1E-9", "8E6", "0E-13", underflow}, {"-1E-9", "8E9", "-0E-13", underflow}, {"1E-9", "64E0", "156E-13", underflow},
		{"0E0", "3E0", "0E0", 0}, {"-0E5", "3E2", "-0E3", 0}, {"0E-9", "-3E9", "-0E-13", 0}, {"0E1200", "3E-1200", "0E9", 0}, {"-0E0", "-7E4", "0E-4", 0},
		{"1E0", "0E0", "infinite", api.SignalZero}, {"-1E0", "0E9", "-infinite", api.SignalZero}, {"1E-1200", "-0E0", "-infinite", api.SignalZero}, {"-1E0", "-0E0", "infinite", api.SignalZero},
		{"0E0", "0E0", "none", api.SignalInvalid}, {"0E4", "-0E0", "none", api.SignalInvalid}, {"-0E0", "-0E0", "none", api.SignalInvalid},
		{"infinite", "infinite", "none", api.SignalInvalid}, {"infinite", "-infinite", "none", api.SignalInvalid}, {"-infinite", "-infinite", "none", api.SignalInvalid},
		{"infinite", "3E0", "infinite", 0}, {"-infinite", "3E0", "-infinite", 0}, {"infinite", "-3E0", "-infinite", 0}, {"infinite", "0E0", "infinite", 0}, {"infinite", "-0E0", "-infinite", 0}, {"-infinite", "-0E5", "infinite", 0},
		{"3E0", "infinite", "0E-13", 0}, {"-3E7", "infinite", "-0E-13", 0}, {"3E0", "-infinite", "-0E-13", 0}, {"0E0", "infinite", "0E-13", 0}, {"-0E9", "-infinite", "0E-13", 0},
	} {
		div.expect(t, decs(row.a, row.b), c, row.want, row.signals)
	}
	div.expect(t, decs("1E1200", "1E-1200"), c, "infinite", overflow)
	div.expect(t, decs(nines(api.MaxCoef)+"E-1200", "1E1200"), wide(60, api.RoundCeiling), "1E-1058", underflow)
}

// R4.3: Rem with every pair of signs, by infinite numbers and by 0.
func TestRemOfSmall(t *testing.T) {
	c := api.Context{Precision: 3, Rounding: api.RoundHalfEven, Min: -9, Max: 9}
	for _, row := range []struct {
		a, b, want string
		signals    int
	}{
		{"7E0", "3E0", "1E0", 0}, {"-7E0", "3E0", "-1E0", 0}, {"7E0", "-3E0", "1E0", 0}, {"-7E0", "-3E0", "-1E0", 0},
		{"6E0", "3E0", "0E0", 0}, {"-6E0", "3E0", "-0E0", 0}, {"6E0", "-3E0", "0E0", 0}, {"-6E0", "-3E0", "-0E0", 0}, {"0E0", "3E0", "0E0", 0}, {"-0E0", "3E0", "-0E0", 0}, {"-0E5", "30E-1", "-0E-1", 0},
		{"75E-1", "2E0", "15E-1", 0}, {"7E0", "25E-1", "20E-1", 0}, {"1E9", "3E0", "1E0", 0}, {"1E1200", "7E0", "1E0", 0}, {"2E0", "1E1200", "2E0", 0}, {"1E-1200", "1E1200", "0E-11", underflow},
		{"12345E0", "99999E0", "123E2", inexact}, {"-12355E0", "99999E0", "-124E2", inexact}, {"12345E0", "12345E0", "0E0", 0}, {"5E-12", "1E0", "0E-11", underflow}, {"5E-11", "1E0", "5E-11", subnormal},
		{"12345E0", "infinite", "123E2", inexact}, {"-7E-1", "infinite", "-7E-1", 0}, {"7E-1", "-infinite", "7E-1", 0}, {"-0E2", "infinite", "-0E2", 0}, {"1E1200", "infinite", "infinite", overflow},
		{"7E0", "0E0", "none", api.SignalInvalid}, {"0E0", "-0E0", "none", api.SignalInvalid}, {"infinite", "3E0", "none", api.SignalInvalid}, {"-infinite", "infinite", "none", api.SignalInvalid}, {"infinite", "0E0", "none", api.SignalInvalid},
		{"none", "0E0", "none", 0}, {"infinite", "none", "none", 0},
	} {
		rem.expect(t, decs(row.a, row.b), c, row.want, row.signals)
	}
}
