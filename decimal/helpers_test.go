package decimal_test

import (
	"fmt"
	"math/big"
	"math/rand"
	"slices"
	"strconv"
	"strings"
	"testing"

	"brindlewood/api"
)

// Limbs that stand behind the end of an argument, to show whether a call writes there.
const spareLimb, spareLimbs = 0xdeadbeef, 4

const minInt, maxInt = -1 << 63, 1<<63 - 1

var noFault = api.Fault{}

// fault returns a fault.
func fault(code, index int) api.Fault { return api.Fault{Code: code, Index: index} }

// form is the fault of the n-th argument, counted from 1 on, that is not valid.
func form(n int) api.Fault { return fault(api.ErrForm, -n) }

// badContext is the fault of a context that is not valid.
var badContext = fault(api.ErrRange, -9)

// toInt converts a number of any size.
func toInt(x *big.Int) api.Int {
	a := api.Int{Neg: x.Sign() < 0}
	mask := big.NewInt(1<<32 - 1)
	for rest := new(big.Int).Abs(x); rest.Sign() > 0; rest.Rsh(rest, 32) {
		a.Limbs = append(a.Limbs, uint32(new(big.Int).And(rest, mask).Uint64()))
	}
	return a
}

// toBig converts an integer of any size.
func toBig(a api.Int) *big.Int {
	x := new(big.Int)
	for _, limb := range slices.Backward(a.Limbs) {
		x.Or(x.Lsh(x, 32), big.NewInt(int64(limb)))
	}
	if a.Neg {
		x.Neg(x)
	}
	return x
}

// ten returns 10^n.
func ten(n int) *big.Int { return new(big.Int).Exp(big.NewInt(10), big.NewInt(int64(n)), nil) }

// power returns 10^n, where n may be negative.
func power(n int) *big.Rat {
	if n < 0 {
		return new(big.Rat).SetFrac(big.NewInt(1), ten(-n))
	}
	return new(big.Rat).SetInt(ten(n))
}

// dec reads what show writes.
func dec(text string) api.Decimal {
	absolute, neg := strings.CutPrefix(text, "-")
	switch absolute {
	case "infinite":
		return api.Decimal{Kind: api.DecInfinite, Neg: neg}
	case "none":
		return api.Decimal{Kind: api.DecNone}
	}
	digits, exponent, _ := strings.Cut(absolute, "E")
	coef, good := new(big.Int).SetString(digits, 10)
	exp, err := strconv.Atoi(exponent)
	if !good || err != nil {
		panic(text)
	}
	return api.Decimal{Neg: neg, Coef: toInt(coef), Exp: exp}
}

// decs reads some decimals.
func decs(texts ...string) []api.Decimal {
	var list []api.Decimal
	for _, text := range texts {
		list = append(list, dec(text))
	}
	return list
}

// show writes the fields of a decimal: the coefficient, E and the exponent of a finite one. It does not hide anything that is not valid.
func show(x api.Decimal) string {
	text := toBig(x.Coef).String() + "E" + strconv.Itoa(x.Exp)
	if last := len(x.Coef.Limbs) - 1; last >= 0 && x.Coef.Limbs[last] == 0 {
		text += " with leading zeros"
	}
	if x.Kind != api.DecFinite && text == "0E0" {
		text = []string{"", "infinite", "none"}[x.Kind]
	}
	if x.Neg {
		text = "-" + text
	}
	return text
}

// valueOf returns the value of a finite decimal.
func valueOf(x api.Decimal) *big.Rat {
	value := new(big.Rat).SetInt(toBig(x.Coef))
	if x.Neg {
		value.Neg(value)
	}
	return value.Mul(value, power(x.Exp))
}

// isFinite reports whether all of some decimals are finite.
func isFinite(list ...api.Decimal) bool {
	return !slices.ContainsFunc(list, func(x api.Decimal) bool { return x.Kind != api.DecFinite })
}

// nines returns some nines.
func nines(count int) string { return strings.Repeat("9", count) }

// edges are decimals of all kinds, with coefficients and exponents at their limits, halves, and numbers next to them.
func edges() []api.Decimal {
	texts := []string{"infinite"}
	for _, exp := range []int{0, 1, -1, -3, 8, 300, -300, api.MaxPower, -api.MaxPower} {
		for _, coef := range []string{"0", "1", "5", "10"} {
			texts = append(texts, coef+"E"+strconv.Itoa(exp))
		}
	}
	top, half := nines(api.MaxCoef), "5"+strings.Repeat("0", 70)
	for _, exp := range []int{0, -1, -2, 7, -60, -120, 880, -1059, api.MaxPower, -api.MaxPower} {
		for _, coef := range []string{"25", "99", "12345", "999950", top, "1" + half, "2" + half, "2" + half[:70] + "1", "24" + nines(69)} {
			texts = append(texts, coef+"E"+strconv.Itoa(exp))
		}
	}
	var list []api.Decimal
	for _, text := range texts {
		list = append(list, dec(text), dec("-"+text))
	}
	return append(list, dec("none"))
}

// random returns a random decimal: mostly of few digits and a small exponent.
func random(source *rand.Rand) api.Decimal {
	digits := []int{1, 1, 2, 3, 3, 5, 9, 30, 61, api.MaxCoef}[source.Intn(10)]
	reach := []int{2, 4, 10, 10, 60, 999, api.MaxPower}[source.Intn(7)]
	coef := new(big.Int).Rand(source, ten(digits))
	if source.Intn(4) == 0 {
		cut := ten(source.Intn(digits + 1))
		coef.Mul(coef.Div(coef, cut), cut)
	}
	return api.Decimal{Neg: source.Intn(2) == 0, Coef: toInt(coef), Exp: source.Intn(2*reach+1) - reach}
}

// contexts are valid contexts with all kinds of rounding and limits of many sizes.
func contexts() []api.Context {
	var list []api.Context
	for _, limits := range [][2]int{{-9, 9}, {0, 0}, {-999, 999}, {-2, 5}, {0, 999}, {-61, 0}} {
		for _, precision := range []int{1, 2, 3, 5, 28, api.MaxPrecision} {
			for rounding := range api.RoundingKinds {
				list = append(list, api.Context{Precision: precision, Rounding: rounding, Min: limits[0], Max: limits[1]})
			}
		}
	}
	return list
}

// wide is a context whose limits no small number exceeds.
func wide(precision, rounding int) api.Context {
	return api.Context{Precision: precision, Rounding: rounding, Min: -api.MaxScale, Max: api.MaxScale}
}

// badContexts are contexts that are not valid, most of them just outside of a limit.
func badContexts() []api.Context {
	var list []api.Context
	for _, c := range []api.Context{wide(9, api.RoundHalfEven), {Precision: 1}} {
		for _, precision := range []int{0, -1, api.MaxPrecision + 1, minInt, maxInt} {
			list = append(list, api.Context{Precision: precision, Rounding: c.Rounding, Min: c.Min, Max: c.Max})
		}
		for _, rounding := range []int{-1, api.RoundingKinds, minInt, maxInt} {
			list = append(list, api.Context{Precision: c.Precision, Rounding: rounding, Min: c.Min, Max: c.Max})
		}
		for _, least := range []int{1, -api.MaxScale - 1, minInt, maxInt} {
			list = append(list, api.Context{Precision: c.Precision, Rounding: c.Rounding, Min: least, Max: c.Max})
		}
		for _, most := range []int{-1, api.MaxScale + 1, minInt, maxInt} {
			list = append(list, api.Context{Precision: c.Precision, Rounding: c.Rounding, Min: c.Min, Max: most})
		}
	}
	return append(list, api.Context{})
}

// invalid are decimals that are not valid.
func invalid() []api.Decimal {
	unit, zeroLimb := api.Int{Limbs: []uint32{1}}, api.Int{Limbs: []uint32{0}}
	tooLong := make([]uint32, api.MaxLimbs+1)
	tooLong[api.MaxLimbs] = 1
	list := []api.Decimal{
		{Kind: -1}, {Kind: 3}, {Kind: minInt}, {Kind: maxInt}, {Kind: 3, Coef: unit},
		{Coef: api.Int{Neg: true, Limbs: []uint32{1}}}, {Neg: true, Coef: api.Int{Neg: true, Limbs: []uint32{1}}}, {Coef: api.Int{Neg: true}},
		{Coef: zeroLimb}, {Coef: api.Int{Limbs: []uint32{1, 0}}}, {Coef: api.Int{Limbs: tooLong}},
		{Coef: toInt(ten(api.MaxCoef))}, {Coef: toInt(ten(api.MaxCoef + 1))}, {Neg: true, Coef: toInt(ten(api.MaxCoef)), Exp: -api.MaxCoef}, {Coef: toInt(ten(1000))},
	}
	for _, exp := range []int{api.MaxPower + 1, -api.MaxPower - 1, minInt, maxInt} {
		list = append(list, api.Decimal{Exp: exp}, api.Decimal{Neg: true, Exp: exp}, api.Decimal{Coef: unit, Exp: exp})
	}
	for _, kind := range []int{api.DecInfinite, api.DecNone} {
		for _, neg := range []bool{false, true} {
			list = append(list, api.Decimal{Kind: kind, Neg: neg, Coef: unit}, api.Decimal{Kind: kind, Neg: neg, Exp: 1}, api.Decimal{Kind: kind, Neg: neg, Exp: -1},
				api.Decimal{Kind: kind, Neg: neg, Coef: api.Int{Neg: true}}, api.Decimal{Kind: kind, Neg: neg, Coef: zeroLimb}, api.Decimal{Kind: kind, Neg: neg, Coef: unit, Exp: 1})
		}
	}
	return append(list, api.Decimal{Kind: api.DecNone, Neg: true})
}

// withSpare returns a copy that has spare capacity with known content.
func withSpare(a api.Int) api.Int {
	limbs := append(slices.Clone(a.Limbs), slices.Repeat([]uint32{spareLimb}, spareLimbs)...)
	return api.Int{Neg: a.Neg, Limbs: limbs[:len(a.Limbs)]}
}

// memory returns all limbs that some integers refer to, with their spare capacity.
func memory(list []api.Int) [][]uint32 {
	var all [][]uint32
	for _, a := range list {
		all = append(all, a.Limbs[:cap(a.Limbs)])
	}
	return all
}

// copied returns copies of lists.
func copied(all [][]uint32) [][]uint32 {
	var result [][]uint32
	for _, limbs := range all {
		result = append(result, slices.Clone(limbs))
	}
	return result
}

// same reports whether lists have the same elements.
func same(a, b [][]uint32) bool { return slices.EqualFunc(a, b, slices.Equal[[]uint32]) }

// guarded calls a function with integers, and checks that they, with their spare capacity, remain, and that the integers of its result are memory of their own (Z4). It returns copies of these.
func guarded(t *testing.T, run func(given []api.Int) []api.Int, arguments ...api.Int) []api.Int {
	t.Helper()
	var given []api.Int
	for _, a := range arguments {
		given = append(given, withSpare(a))
	}
	before := copied(memory(given))
	results := run(given)
	if !same(memory(given), before) {
		t.Fatalf("%s: the arguments were changed", brief(arguments))
	}
	var values []api.Int
	for _, result := range results {
		values = append(values, api.Int{Neg: result.Neg, Limbs: slices.Clone(result.Limbs)})
	}
	everything := append(memory(given), memory(results)...)
	want := copied(everything)
	for i, limbs := range everything {
		for k := range limbs {
			limbs[k] += uint32(i + 1)
			want[i][k] += uint32(i + 1)
		}
	}
	if !same(everything, want) {
		t.Fatalf("%s: results and arguments share memory", brief(arguments))
	}
	return values
}

// coefs separates the coefficients of decimals.
func coefs(list []api.Decimal) []api.Int {
	var result []api.Int
	for _, x := range list {
		result = append(result, x.Coef)
	}
	return result
}

// joined returns decimals with other coefficients.
func joined(list []api.Decimal, given []api.Int) []api.Decimal {
	list = slices.Clone(list)
	for i := range list {
		list[i].Coef = given[i]
	}
	return list
}

// call is a call of decimals with a context.
type call func(a []api.Decimal, c api.Context) (api.Decimal, int, api.Fault)

// one makes a call of a function with one decimal.
func one(f func(a api.Decimal, c api.Context) (api.Decimal, int, api.Fault)) call {
	return func(a []api.Decimal, c api.Context) (api.Decimal, int, api.Fault) { return f(a[0], c) }
}

// two makes a call of a function with two decimals.
func two(f func(a, b api.Decimal, c api.Context) (api.Decimal, int, api.Fault)) call {
	return func(a []api.Decimal, c api.Context) (api.Decimal, int, api.Fault) { return f(a[0], a[1], c) }
}

// make makes a call under guard.
func (f call) make(t *testing.T, arguments []api.Decimal, c api.Context) (api.Decimal, int, api.Fault) {
	t.Helper()
	var result api.Decimal
	var signals int
	var fault api.Fault
	values := guarded(t, func(given []api.Int) []api.Int {
		result, signals, fault = f(joined(arguments, given), c)
		return []api.Int{result.Coef}
	}, coefs(arguments)...)
	result.Coef = values[0]
	return result, signals, fault
}

// expect compares the results of a call.
func (f call) expect(t *testing.T, arguments []api.Decimal, c api.Context, want string, signals int) {
	t.Helper()
	result, got, fault := f.make(t, arguments, c)
	if fault != noFault || show(result) != want || got != signals {
		t.Fatalf("%s in %v: %s, signals %d, fault %v; want %s, signals %d", shown(arguments), c, show(result), got, fault, want, signals)
	}
}

// expectFault expects a fault, with which the other results are zero.
func (f call) expectFault(t *testing.T, arguments []api.Decimal, c api.Context, want api.Fault) {
	t.Helper()
	result, signals, fault := f.make(t, arguments, c)
	if fault != want || show(result) != "0E0" || result.Kind != 0 || signals != 0 {
		t.Fatalf("%s in %v: %s, signals %d, fault %v; want the fault %v", brief(arguments), c, brief(result), signals, fault, want)
	}
}

// expectFaults checks the faults of a context and of decimals that are not valid, in all combinations; the context comes first.
func (f call) expectFaults(t *testing.T, count int) {
	t.Helper()
	good := decs("0E0", "-7E1", "infinite", "none", "-1E0", "-0E0", "-infinite")
	bad, wrong := invalid(), badContexts()
	for i, first := range bad {
		for set := range 1 << count {
			var arguments []api.Decimal
			for k := range count {
				x := good[(i+k)%len(good)]
				if set>>k&1 == 1 {
					x = bad[(i+5*len(arguments))%len(bad)]
				}
				arguments = append(arguments, x)
			}
			f.expectFault(t, arguments, wrong[i%len(wrong)], badContext)
			for k := range count {
				if set>>k&1 == 1 {
					f.expectFault(t, arguments, wide(9, 0), form(k+1))
					break
				}
			}
		}
		for k := range count {
			arguments := slices.Repeat(decs("1E0"), count)
			arguments[k] = first
			f.expectFault(t, arguments, wide(9, 0), form(k+1))
		}
	}
	for _, c := range wrong {
		f.expectFault(t, slices.Repeat(decs("1E0"), count), c, badContext)
	}
}

// shown is a text of decimals.
func shown(list []api.Decimal) string {
	var texts []string
	for _, x := range list {
		texts = append(texts, show(x))
	}
	return strings.Join(texts, ", ")
}

// brief is a text of values, shortened.
func brief(values ...any) string {
	text := fmt.Sprint(values...)
	if len(text) > 160 {
		text = text[:160] + " .."
	}
	return text
}
