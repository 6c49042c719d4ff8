package decimal_test

import (
	"math/big"
	"math/rand"
	"strconv"
	"testing"

	"brindlewood/api"
	"brindlewood/decimal"
)

// The calls of R4.4.
var (
	sqrt   = one(decimal.Sqrt)
	round  = one(decimal.Round)
	reduce = one(decimal.Reduce)
)

// quantize is a call of Quantize with an exponent.
func quantize(exp int) call {
	return one(func(a api.Decimal, c api.Context) (api.Decimal, int, api.Fault) {
		return decimal.Quantize(a, exp, c)
	})
}

// reduced returns the text of a finite decimal without zeros at the end of its coefficient.
func reduced(text string) string {
	x := dec(text)
	if !isFinite(x) {
		return text
	}
	coef := toBig(x.Coef)
	if coef.Sign() == 0 {
		return written(x.Neg, coef, 0)
	}
	for {
		quotient, rest := new(big.Int).QuoRem(coef, big.NewInt(10), new(big.Int))
		if rest.Sign() != 0 {
			return written(x.Neg, coef, x.Exp)
		}
		coef, x.Exp = quotient, x.Exp+1
	}
}

// quantized returns what Quantize of a finite decimal is.
func quantized(x api.Decimal, exp int, c api.Context) (string, int) {
	if exp < c.Min-c.Precision+1 || exp > c.Max {
		return "none", api.SignalInvalid
	}
	coef, half := ratioIn(valueOf(x))(exp)
	signals := 0
	if half != -2 {
		signals = api.SignalInexact
		if goesUp(c.Rounding, x.Neg, half, coef.Bit(0) == 1) {
			coef.Add(coef, big.NewInt(1))
		}
	}
	digits := len(coef.String())
	if coef.Sign() != 0 && (digits > c.Precision || exp+digits-1 > c.Max) {
		return "none", api.SignalInvalid
	}
	return written(x.Neg, coef, exp), signals
}

// expectOne checks the calls with one finite decimal.
func expectOne(t *testing.T, a api.Decimal, c api.Context) {
	t.Helper()
	want, signals := fittedRatio(valueOf(a), a.Neg, a.Exp, c)
	round.expect(t, []api.Decimal{a}, c, want, signals)
	reduce.expect(t, []api.Decimal{a}, c, reduced(want), signals)
	for _, exp := range []int{a.Exp, a.Exp + 1, a.Exp + 3, a.Exp - 2, a.Exp - c.Precision, 0, c.Min - c.Precision, c.Min - c.Precision + 1, c.Max, c.Max + 1, c.Max - c.Precision + 1} {
		want, signals := quantized(a, exp, c)
		quantize(exp).expect(t, []api.Decimal{a}, c, want, signals)
	}
	if value := valueOf(a); value.Sign() >= 0 {
		from, ideal := (a.Exp+api.MaxCoef)/2+1, (a.Exp-a.Exp&1)/2
		want, signals := fitted(rootIn(value), value.Sign() == 0, a.Neg, from, ideal, c)
		sqrt.expect(t, []api.Decimal{a}, c, want, signals)
	}
}

// R4.4: finite decimals at the limits and random ones, with all kinds of rounding.
func TestOne(t *testing.T) {
	source := rand.New(rand.NewSource(4))
	all := contexts()
	for i, a := range edges() {
		for k := range 7 {
			if isFinite(a) {
				expectOne(t, a, all[(i*13+k*43)%len(all)])
			}
		}
	}
	for range 1500 {
		expectOne(t, random(source), all[source.Intn(len(all))])
	}
}

// R4.4: numbers of both signs at exact halves, just below and just above them.
func TestRoundOfHalves(t *testing.T) {
	for _, row := range []struct {
		text string
		want [api.RoundingKinds]string
	}{
		{"1249", [...]string{"12", "13", "12", "13", "12", "12", "12"}},
		{"1250", [...]string{"12", "13", "12", "13", "13", "12", "12"}},
		{"1251", [...]string{"12", "13", "12", "13", "13", "13", "13"}},
		{"1349", [...]string{"13", "14", "13", "14", "13", "13", "13"}},
		{"1350", [...]string{"13", "14", "13", "14", "14", "13", "14"}},
		{"1351", [...]string{"13", "14", "13", "14", "14", "14", "14"}},
		{"1299", [...]string{"12", "13", "12", "13", "13", "13", "13"}},
		{"1201", [...]string{"12", "13", "12", "13", "12", "12", "12"}},
	} {
		for rounding, want := range row.want {
			opposite := rounding
			if rounding == api.RoundFloor || rounding == api.RoundCeiling {
				opposite = api.RoundFloor + api.RoundCeiling - rounding
			}
			for _, exp := range []int{0, -2, 7, -700} {
				from, to := "E"+strconv.Itoa(exp), "E"+strconv.Itoa(exp+2)
				round.expect(t, decs(row.text+from), wide(2, rounding), want+to, inexact)
				round.expect(t, decs("-"+row.text+from), wide(2, opposite), "-"+want+to, inexact)
				quantize(exp+2).expect(t, decs(row.text+from), wide(2, rounding), want+to, inexact)
				quantize(exp+2).expect(t, decs("-"+row.text+from), wide(2, opposite), "-"+want+to, inexact)
			}
		}
		round.expect(t, decs(row.text+"E0"), wide(4, api.RoundUp), row.text+"E0", 0)
	}
}

// R4.4: coefficients that become 10^Precision, and results at Min, Tiny and Max and beyond them.
func TestRoundLimits(t *testing.T) {
	for _, row := range []struct {
		text     string
		rounding int
		want     string
		signals  int
	}{
		{"9995E0", api.RoundHalfUp, "100E2", inexact}, {"9995E0", api.RoundHalfEven, "100E2", inexact}, {"9995E0", api.RoundHalfDown, "999E1", inexact}, {"-9991E0", api.RoundFloor, "-100E2", inexact}, {"-9999E0", api.RoundCeiling, "-999E1", inexact},
		{"999E7", api.RoundUp, "999E7", 0}, {"9999E6", api.RoundDown, "999E7", inexact}, {"9999E6", api.RoundHalfUp, "infinite", overflow}, {"-9995E6", api.RoundHalfEven, "-infinite", overflow}, {"9994E6", api.RoundHalfEven, "999E7", inexact},
		{"1E9", api.RoundDown, "1E9", 0}, {"10E8", api.RoundUp, "10E8", 0}, {"1000E6", api.RoundUp, "100E7", 0}, {"1E10", api.RoundHalfUp, "infinite", overflow}, {"1E10", api.RoundHalfDown, "infinite", overflow}, {"-1E10", api.RoundHalfEven, "-infinite", overflow}, {"-1E10", api.RoundUp, "-infinite", overflow},
		{"1E10", api.RoundDown, "999E7", overflow}, {"-1E10", api.RoundDown, "-999E7", overflow}, {"1E10", api.RoundFloor, "999E7", overflow}, {"-1E10", api.RoundFloor, "-infinite", overflow}, {"1E10", api.RoundCeiling, "infinite", overflow}, {"-1E1200", api.RoundCeiling, "-999E7", overflow},
		{"1E-9", api.RoundDown, "1E-9", 0}, {"100E-11", api.RoundDown, "100E-11", 0}, {"99E-11", api.RoundDown, "99E-11", subnormal}, {"1E-10", api.RoundDown, "1E-10", subnormal}, {"1E-11", api.RoundDown, "1E-11", subnormal}, {"10E-12", api.RoundDown, "1E-11", subnormal},
		{"1E-12", api.RoundDown, "0E-11", underflow}, {"1E-12", api.RoundUp, "1E-11", underflow}, {"-1E-1200", api.RoundDown, "-0E-11", underflow}, {"-1E-1200", api.RoundFloor, "-1E-11", underflow}, {"-1E-1200", api.RoundCeiling, "-0E-11", underflow}, {"5E-12", api.RoundHalfEven, "0E-11", underflow}, {"15E-12", api.RoundHalfEven, "2E-11", underflow}, {"5E-12", api.RoundHalfUp, "1E-11", underflow}, {"5E-12", api.RoundHalfDown, "0E-11", underflow},
		{"9996E-13", api.RoundHalfEven, "100E-11", underflow}, {"999E-12", api.RoundHalfEven, "100E-11", underflow}, {"99949E-14", api.RoundUp, "100E-11", underflow}, {"1001E-12", api.RoundHalfEven, "100E-11", inexact},
		{"0E10", api.RoundUp, "0E9", 0}, {"0E9", api.RoundUp, "0E9", 0}, {"-0E1200", api.RoundDown, "-0E9", 0}, {"0E-11", api.RoundUp, "0E-11", 0}, {"0E-12", api.RoundUp, "0E-11", 0}, {"-0E-1200", api.RoundFloor, "-0E-11", 0},
		{"1000E0", api.RoundUp, "100E1", 0}, {"123000E0", api.RoundUp, "123E3", 0}, {"10E0", api.RoundUp, "10E0", 0}, {"1E5", api.RoundUp, "1E5", 0},
	} {
		c := api.Context{Precision: 3, Rounding: row.rounding, Min: -9, Max: 9}
		round.expect(t, decs(row.text), c, row.want, row.signals)
		reduce.expect(t, decs(row.text), c, reduced(row.want), row.signals)
	}
}

// R4.4: the largest decimals and contexts.
func TestRoundOfLargest(t *testing.T) {
	top := nines(api.MaxCoef)
	round.expect(t, decs(top+"E0"), wide(60, api.RoundDown), nines(60)+"E60", inexact)
	round.expect(t, decs(top+"E-120"), wide(60, api.RoundUp), ten(59).String()+"E-59", inexact)
	round.expect(t, decs(top+"E1200"), wide(60, api.RoundFloor), nines(60)+"E940", overflow)
	round.expect(t, decs(top+"E-1200"), wide(60, api.RoundDown), "0E-1058", underflow)
	round.expect(t, decs(nines(60)+"E940"), wide(60, api.RoundUp), nines(60)+"E940", 0)
	round.expect(t, decs(nines(60)+"E-1058"), wide(60, api.RoundUp), nines(60)+"E-1058", 0)
	round.expect(t, decs("1E-999"), wide(60, api.RoundUp), "1E-999", 0)
	round.expect(t, decs("1E-1058"), wide(60, api.RoundUp), "1E-1058", subnormal)
	narrow := api.Context{Precision: 1, Rounding: api.RoundHalfEven}
	round.expect(t, decs("96E-1"), narrow, "infinite", overflow)
	round.expect(t, decs("94E-1"), narrow, "9E0", inexact)
	round.expect(t, decs("6E-1"), narrow, "1E0", underflow)
	round.expect(t, decs("-5E-1"), narrow, "-0E0", underflow)
}

// R4.4: Reduce.
func TestReduceOfSmall(t *testing.T) {
	c := wide(9, api.RoundHalfEven)
	for _, row := range [][2]string{
		{"1500E-3", "15E-1"}, {"100E0", "1E2"}, {"-120E-2", "-12E-1"}, {"7E5", "7E5"}, {"10E998", "1E999"}, {"1000E-1000", "1E-997"},
		{"0E0", "0E0"}, {"0E7", "0E0"}, {"-0E-7", "-0E0"}, {"0E1200", "0E0"}, {"-0E-1200", "-0E0"},
		{"infinite", "infinite"}, {"-infinite", "-infinite"}, {"none", "none"},
	} {
		reduce.expect(t, decs(row[0]), c, row[1], 0)
	}
	reduce.expect(t, decs("12999999995E0"), c, "13E9", inexact)
	reduce.expect(t, decs("1E-1200"), c, "0E0", underflow)
	reduce.expect(t, decs("-1E1200"), c, "-infinite", overflow)
	reduce.expect(t, decs("1E1200"), wide(2, api.RoundDown), "99E998", overflow)
}

// R4.4: decimals that are not finite.
func TestOneOfOthers(t *testing.T) {
	for _, c := range []api.Context{wide(5, api.RoundHalfEven), {Precision: 1}} {
		for _, text := range []string{"infinite", "-infinite", "none"} {
			round.expect(t, decs(text), c, text, 0)
			reduce.expect(t, decs(text), c, text, 0)
		}
		for _, exp := range []int{0, 5, -5, 1000, -2000, minInt, maxInt} {
			quantize(exp).expect(t, decs("none"), c, "none", 0)
			quantize(exp).expect(t, decs("infinite"), c, "none", api.SignalInvalid)
			quantize(exp).expect(t, decs("-infinite"), c, "none", api.SignalInvalid)
		}
		sqrt.expect(t, decs("infinite"), c, "infinite", 0)
		sqrt.expect(t, decs("-infinite"), c, "none", api.SignalInvalid)
		sqrt.expect(t, decs("none"), c, "none", 0)
		sqrt.expect(t, decs("-1E-1200"), c, "none", api.SignalInvalid)
		sqrt.expect(t, decs("-4E0"), c, "none", api.SignalInvalid)
	}
}

// R4.4: Quantize, with exponents at Tiny and Max, and with one digit too many.
func TestQuantizeOfSmall(t *testing.T) {
	c := api.Context{Precision: 4, Rounding: api.RoundHalfEven, Min: -9, Max: 9}
	for _, row := range []struct {
		text    string
		exp     int
		want    string
		signals int
	}{
		{"2675E-3", -2, "268E-2", inexact}, {"2665E-3", -2, "266E-2", inexact}, {"-2675E-3", -2, "-268E-2", inexact}, {"2670E-3", -2, "267E-2", 0}, {"2E0", -2, "200E-2", 0}, {"2E0", -3, "2000E-3", 0}, {"2E0", -4, "none", api.SignalInvalid},
		{"9999E0", 0, "9999E0", 0}, {"99995E-1", 0, "none", api.SignalInvalid}, {"99994E-1", 0, "9999E0", inexact}, {"10000E0", 0, "none", api.SignalInvalid}, {"10000E0", 1, "1000E1", 0}, {"5E0", 1, "0E1", inexact}, {"-5E0", 1, "-0E1", inexact}, {"6E0", 1, "1E1", inexact}, {"-1E-1200", 0, "-0E0", inexact},
		{"0E0", 9, "0E9", 0}, {"0E0", 10, "none", api.SignalInvalid}, {"-0E3", -12, "-0E-12", 0}, {"0E0", -13, "none", api.SignalInvalid}, {"0E-1200", 0, "0E0", 0},
		{"1E9", 9, "1E9", 0}, {"9E9", 9, "9E9", 0}, {"10E9", 9, "none", api.SignalInvalid}, {"96E8", 9, "none", api.SignalInvalid}, {"94E8", 9, "9E9", inexact}, {"1E9", 6, "1000E6", 0}, {"99999E5", 6, "none", api.SignalInvalid}, {"99994E5", 6, "9999E6", inexact}, {"1E10", 7, "none", api.SignalInvalid}, {"5E8", 9, "0E9", inexact}, {"1E0", 9, "0E9", inexact},
		{"1E-12", -12, "1E-12", 0}, {"15E-13", -12, "2E-12", inexact}, {"1E-12", -13, "none", api.SignalInvalid}, {"1E-10", -12, "100E-12", 0}, {"1E-1200", -12, "0E-12", inexact}, {"1E0", -12, "none", api.SignalInvalid},
		{"1E0", maxInt, "none", api.SignalInvalid}, {"1E0", minInt, "none", api.SignalInvalid}, {"0E0", maxInt, "none", api.SignalInvalid}, {"0E0", minInt, "none", api.SignalInvalid}, {"1E1200", -12, "none", api.SignalInvalid},
	} {
		quantize(row.exp).expect(t, decs(row.text), c, row.want, row.signals)
	}
}

// R4.4: roots of squares and of numbers next to squares, with odd and even exponents, and of 0.
func TestSqrtOfSmall(t *testing.T) {
	for _, row := range []struct {
		text    string
		want    [2]string
		signals int
	}{
		{"900E-2", [2]string{"30E-1", "30E-1"}, 0}, {"9E0", [2]string{"3E0", "3E0"}, 0}, {"16E-1", [2]string{"1264E-3", "1265E-3"}, inexact}, {"16E-2", [2]string{"4E-1", "4E-1"}, 0}, {"160E-1", [2]string{"40E-1", "40E-1"}, 0}, {"1E1", [2]string{"3162E-3", "3163E-3"}, inexact}, {"1E2", [2]string{"1E1", "1E1"}, 0}, {"100E0", [2]string{"10E0", "10E0"}, 0},
		{"2E0", [2]string{"1414E-3", "1415E-3"}, inexact}, {"99980001E0", [2]string{"9999E0", "9999E0"}, 0}, {"99980002E0", [2]string{"9999E0", "1000E1"}, inexact}, {"99980000E0", [2]string{"9998E0", "9999E0"}, inexact}, {"1000000E-3", [2]string{"3162E-2", "3163E-2"}, inexact}, {"100000000E0", [2]string{"1000E1", "1000E1"}, 0}, {"1E8", [2]string{"1E4", "1E4"}, 0},
		{"0E0", [2]string{"0E0", "0E0"}, 0}, {"-0E3", [2]string{"-0E1", "-0E1"}, 0}, {"-0E-3", [2]string{"-0E-2", "-0E-2"}, 0}, {"0E-4", [2]string{"0E-2", "0E-2"}, 0}, {"0E1200", [2]string{"0E600", "0E600"}, 0}, {"1E-1200", [2]string{"1E-600", "1E-600"}, 0}, {"4E-1199", [2]string{"6324E-603", "6325E-603"}, inexact}, {"4E1199", [2]string{"6324E596", "6325E596"}, inexact},
	} {
		sqrt.expect(t, decs(row.text), wide(4, api.RoundDown), row.want[0], row.signals)
		sqrt.expect(t, decs(row.text), wide(4, api.RoundUp), row.want[1], row.signals)
	}
	c := wide(1, api.RoundHalfEven)
	sqrt.expect(t, decs("225E-2"), c, "2E0", inexact)
	sqrt.expect(t, decs("625E-2"), c, "2E0", inexact)
	sqrt.expect(t, decs("6251E-3"), c, "3E0", inexact)
	sqrt.expect(t, decs("2249E-3"), c, "1E0", inexact)
	sqrt.expect(t, decs("225E-2"), wide(2, api.RoundHalfEven), "15E-1", 0)
	sqrt.expect(t, decs("625E-2"), wide(2, api.RoundHalfEven), "25E-1", 0)
	narrow := api.Context{Precision: 2, Rounding: api.RoundHalfUp}
	sqrt.expect(t, decs("100E0"), narrow, "infinite", overflow)
	sqrt.expect(t, decs("81E-2"), narrow, "9E-1", subnormal)
	sqrt.expect(t, decs("1E-3"), narrow, "0E-1", underflow)
	sqrt.expect(t, decs("8E-1"), narrow, "9E-1", underflow)
}
