package decimal_test

import (
	"math/big"
	"math/rand"
	"testing"

	"brindlewood/api"
	"brindlewood/decimal"
)

// expectOf compares the results of Of.
func expectOf(t *testing.T, num, den api.Int, c api.Context, want string, signals int, wantFault api.Fault) {
	t.Helper()
	var result api.Decimal
	var got int
	var fault api.Fault
	values := guarded(t, func(given []api.Int) []api.Int {
		result, got, fault = decimal.Of(api.Ratio{Num: given[0], Den: given[1]}, c)
		return []api.Int{result.Coef}
	}, num, den)
	result.Coef = values[0]
	if fault != wantFault || show(result) != want || got != signals {
		t.Fatalf("%s in %v: %s, signals %d, fault %v; want %s, signals %d, fault %v", brief(num, den), c, show(result), got, fault, want, signals, wantFault)
	}
}

// greatest returns the greatest integer.
func greatest() *big.Int {
	x := new(big.Int).Lsh(big.NewInt(1), api.MaxBits)
	return x.Sub(x, big.NewInt(1))
}

// ratios are ratios of many sizes and both signs.
func ratios() []*big.Rat {
	unit, top := big.NewInt(1), greatest()
	below := new(big.Int).Sub(top, unit)
	list := []*big.Rat{
		new(big.Rat), big.NewRat(1, 1), big.NewRat(1, 3), big.NewRat(2, 3), big.NewRat(1, 8), big.NewRat(25, 2), big.NewRat(1000, 1), big.NewRat(999_999, 1), big.NewRat(1, 999_999),
		new(big.Rat).SetInt(top), new(big.Rat).SetFrac(unit, top), new(big.Rat).SetFrac(below, top), new(big.Rat).SetFrac(top, below), power(900), power(-900), power(1200), power(-1200),
		new(big.Rat).SetFrac(ten(600), new(big.Int).Exp(big.NewInt(3), big.NewInt(2000), nil)),
	}
	source := rand.New(rand.NewSource(5))
	for range 60 {
		num, den := new(big.Int).Rand(source, ten(source.Intn(1200)+1)), new(big.Int).Rand(source, ten(source.Intn(1200)+1))
		list = append(list, new(big.Rat).SetFrac(num, den.Add(den, unit)))
	}
	for _, x := range list[1:] {
		list = append(list, new(big.Rat).Neg(x))
	}
	return list
}

// R4.5: Of.
func TestOf(t *testing.T) {
	all := contexts()
	for i, x := range ratios() {
		for k := range 8 {
			c := all[(i*29+k*41)%len(all)]
			want, signals := fittedRatio(x, false, 0, c)
			expectOf(t, toInt(x.Num()), toInt(x.Denom()), c, want, signals, noFault)
		}
	}
	c := wide(4, api.RoundHalfEven)
	for _, row := range []struct {
		x       *big.Rat
		want    string
		signals int
	}{
		{big.NewRat(1, 3), "3333E-4", inexact}, {big.NewRat(-2, 3), "-6667E-4", inexact}, {big.NewRat(1, 8), "125E-3", 0}, {big.NewRat(1000, 1), "1000E0", 0}, {big.NewRat(123000, 1), "1230E2", 0}, {new(big.Rat), "0E0", 0}, {big.NewRat(-5, 2), "-25E-1", 0},
		{power(999), "1000E996", 0}, {power(1000), "infinite", overflow}, {power(-999), "1E-999", 0}, {power(-1002), "1E-1002", subnormal}, {power(-1003), "0E-1002", underflow},
	} {
		expectOf(t, toInt(row.x.Num()), toInt(row.x.Denom()), c, row.want, row.signals, noFault)
	}
}

// R4.5: the faults of Of, in their order.
func TestOfFaults(t *testing.T) {
	unit, two := toInt(big.NewInt(1)), toInt(big.NewInt(2))
	tooLong := toInt(new(big.Int).Add(greatest(), big.NewInt(1)))
	bad := []api.Ratio{{}, {Num: unit}, {Num: two, Den: two}, {Den: two}, {Num: unit, Den: toInt(big.NewInt(-1))}, {Num: tooLong, Den: unit}, {Num: unit, Den: tooLong}, {Num: api.Int{Neg: true}, Den: unit}, {Num: api.Int{Limbs: []uint32{1, 0}}, Den: unit}}
	for _, x := range bad {
		expectOf(t, x.Num, x.Den, wide(3, 0), "0E0", 0, form(1))
		for _, c := range badContexts() {
			expectOf(t, x.Num, x.Den, c, "0E0", 0, badContext)
			expectOf(t, unit, two, c, "0E0", 0, badContext)
		}
	}
}

// expectRatio compares the results of Ratio; a ratio of nil is none.
func expectRatio(t *testing.T, x api.Decimal, want *big.Rat, wantFault api.Fault) {
	t.Helper()
	var fault api.Fault
	values := guarded(t, func(given []api.Int) []api.Int {
		var result api.Ratio
		result, fault = decimal.Ratio(joined([]api.Decimal{x}, given)[0])
		return []api.Int{result.Num, result.Den}
	}, x.Coef)
	num, den := toInt(new(big.Int)), toInt(new(big.Int))
	if want != nil {
		num, den = toInt(want.Num()), toInt(want.Denom())
	}
	if fault != wantFault || brief(num, den) != brief(values[0], values[1]) || toBig(num).Cmp(toBig(values[0])) != 0 || toBig(den).Cmp(toBig(values[1])) != 0 {
		t.Fatalf("%s: %s, fault %v, want %s, fault %v", brief(x), brief(values), fault, brief(num, den), wantFault)
	}
}

// R4.5: Ratio, with results that are just not, and just, too large.
func TestRatio(t *testing.T) {
	source := rand.New(rand.NewSource(6))
	list := edges()
	for range 500 {
		list = append(list, random(source))
	}
	for _, x := range append(list, decs("12E-1", "-125E-3", "-0E-5", "0E1200", "10E-1", "5E3", "-5E0")...) {
		switch {
		case !isFinite(x):
			expectRatio(t, x, nil, fault(api.ErrWrongType, -1))
		case valueOf(x).Num().BitLen() > api.MaxBits:
			expectRatio(t, x, nil, fault(api.ErrTooLarge, -1))
		default:
			expectRatio(t, x, valueOf(x), noFault)
		}
	}
	for exp := 1113; exp <= api.MaxPower; exp++ {
		most := new(big.Int).Div(greatest(), ten(exp))
		if most.Cmp(ten(api.MaxCoef)) >= 0 {
			continue
		}
		x := api.Decimal{Neg: exp%2 == 0, Coef: toInt(most), Exp: exp}
		expectRatio(t, x, valueOf(x), noFault)
		x.Coef = toInt(most.Add(most, big.NewInt(1)))
		expectRatio(t, x, nil, fault(api.ErrTooLarge, -1))
	}
	for _, x := range invalid() {
		expectRatio(t, x, nil, form(1))
	}
}

// compared makes a call of Cmp.
func compared(t *testing.T, a, b api.Decimal) (int, api.Fault) {
	t.Helper()
	var order int
	var fault api.Fault
	list := []api.Decimal{a, b}
	guarded(t, func(given []api.Int) []api.Int {
		given0 := joined(list, given)
		order, fault = decimal.Cmp(given0[0], given0[1])
		return nil
	}, coefs(list)...)
	return order, fault
}

// expectOrder compares the results of Cmp, for both orders of its arguments.
func expectOrder(t *testing.T, a, b api.Decimal, want int) {
	t.Helper()
	if order, fault := compared(t, a, b); order != want || fault != noFault {
		t.Fatalf("%s and %s: %d, fault %v, want %d", show(a), show(b), order, fault, want)
	}
	if order, fault := compared(t, b, a); order != -want || fault != noFault {
		t.Fatalf("%s and %s: %d, fault %v, want %d", show(b), show(a), order, fault, -want)
	}
}

// R4.5: Cmp.
func TestCmp(t *testing.T) {
	source := rand.New(rand.NewSource(7))
	list := edges()
	for i, a := range list {
		for k := range 20 {
			if b := list[(i*7+k*13)%len(list)]; isFinite(a, b) {
				expectOrder(t, a, b, valueOf(a).Cmp(valueOf(b)))
			}
		}
	}
	for range 2000 {
		a, b := random(source), random(source)
		expectOrder(t, a, b, valueOf(a).Cmp(valueOf(b)))
	}
	rising := decs("-infinite", "-"+nines(api.MaxCoef)+"E1200", "-1E1200", "-1E1199", "-2E0", "-11E-1", "-1E0", "-1E-1200", "0E0", "1E-1200", "9E-1200", "1E0", "11E-1", "2E0", "1E1199", "1E1200", nines(api.MaxCoef)+"E1200", "infinite")
	for i, a := range rising {
		for k, b := range rising[i:] {
			expectOrder(t, a, b, -min(k, 1))
		}
	}
	zeros := decs("0E0", "-0E0", "0E1200", "-0E1200", "0E-1200", "-0E-1200")
	for _, a := range zeros {
		for _, b := range zeros {
			expectOrder(t, a, b, 0)
		}
		expectOrder(t, a, dec("1E-1200"), -1)
		expectOrder(t, a, dec("-1E1200"), 1)
		expectOrder(t, a, dec("infinite"), -1)
		expectOrder(t, a, dec("-infinite"), 1)
	}
	expectOrder(t, dec("1E3"), dec("1000E0"), 0)
	expectOrder(t, dec("-1E3"), dec("-100000E-2"), 0)
}

// R4.5: the faults of Cmp, in their order.
func TestCmpFaults(t *testing.T) {
	none := dec("none")
	expect := func(a, b api.Decimal, want api.Fault) {
		t.Helper()
		if order, fault := compared(t, a, b); order != 0 || fault != want {
			t.Fatalf("%s and %s: %d, fault %v, want %v", brief(a), brief(b), order, fault, want)
		}
	}
	for i, bad := range invalid() {
		for _, x := range append(decs("0E0", "infinite", "none"), invalid()[(i*3+1)%10]) {
			expect(bad, x, form(1))
		}
		for _, x := range decs("0E0", "-infinite", "none") {
			expect(x, bad, form(2))
		}
	}
	for _, x := range decs("0E0", "5E1200", "infinite", "-infinite") {
		expect(none, x, fault(api.ErrWrongType, -1))
		expect(x, none, fault(api.ErrWrongType, -2))
	}
	expect(none, none, fault(api.ErrWrongType, -1))
}
