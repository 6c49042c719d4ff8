package decimal_test

import (
	"math/rand"
	"strconv"
	"testing"

	"brindlewood/api"
	"brindlewood/decimal"
)

// valid is Valid, under guard.
func valid(t *testing.T, x api.Decimal) bool {
	t.Helper()
	var result bool
	guarded(t, func(given []api.Int) []api.Int {
		x.Coef = given[0]
		result = decimal.Valid(x)
		return nil
	}, x.Coef)
	return result
}

// R4.1: Valid.
func TestValid(t *testing.T) {
	source := rand.New(rand.NewSource(1))
	list := edges()
	for range 300 {
		list = append(list, random(source))
	}
	for _, x := range list {
		if !valid(t, x) {
			t.Errorf("%s is not valid", show(x))
		}
	}
	for _, x := range invalid() {
		if valid(t, x) {
			t.Errorf("%v is valid", brief(x))
		}
	}
	if empty := (api.Int{Limbs: []uint32{}}); !decimal.Valid(api.Decimal{Coef: empty}) || !decimal.Valid(api.Decimal{Kind: api.DecInfinite, Coef: empty}) || !decimal.Valid(api.Decimal{Kind: api.DecNone, Coef: empty}) {
		t.Error("an empty list of limbs is not valid")
	}
}

// R4.1: a coefficient may have MaxCoef digits, and an exponent reaches to MaxPower.
func TestValidLimits(t *testing.T) {
	for _, text := range []string{nines(api.MaxCoef), "1", "0"} {
		for _, sign := range []string{"", "-"} {
			for _, exp := range []int{0, 1, -1, api.MaxPower, -api.MaxPower} {
				x := dec(sign + text + "E" + strconv.Itoa(exp))
				if !valid(t, x) {
					t.Errorf("%s is not valid", show(x))
				}
			}
			for _, exp := range []int{api.MaxPower + 1, -api.MaxPower - 1} {
				x := dec(sign + text + "E" + strconv.Itoa(exp))
				if valid(t, x) {
					t.Errorf("%s is valid", show(x))
				}
			}
		}
	}
	for _, text := range []string{"1" + nines(api.MaxCoef), "9" + nines(api.MaxCoef) + "E0"} {
		if x := dec(text[:api.MaxCoef+1] + "E0"); valid(t, x) {
			t.Errorf("%s is valid", show(x))
		}
	}
}

// R4.1: Check.
func TestCheck(t *testing.T) {
	list := contexts()
	for rounding := range api.RoundingKinds {
		for _, precision := range []int{1, api.MaxPrecision} {
			for _, least := range []int{0, -1, -api.MaxScale} {
				for _, most := range []int{0, 1, api.MaxScale} {
					list = append(list, api.Context{Precision: precision, Rounding: rounding, Min: least, Max: most})
				}
			}
		}
	}
	for _, c := range append(list, api.Context{Precision: 3}) {
		if !decimal.Check(c) {
			t.Errorf("%v is not valid", c)
		}
	}
	for _, c := range badContexts() {
		if decimal.Check(c) {
			t.Errorf("%v is valid", c)
		}
	}
}

// R4.2 to R4.4: the faults of a context and of decimals that are not valid, in their order.
func TestFaults(t *testing.T) {
	for _, f := range []call{add, sub, mul, div, rem} {
		f.expectFaults(t, 2)
	}
	fma.expectFaults(t, 3)
	for _, f := range []call{sqrt, round, reduce, quantize(0), quantize(maxInt), quantize(minInt)} {
		f.expectFaults(t, 1)
	}
}
