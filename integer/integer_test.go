package integer_test

import (
	"math/big"
	"slices"
	"testing"

	"brindlewood/api"
	"brindlewood/integer"
)

// R2.1: Valid.
func TestValid(t *testing.T) {
	for _, x := range numbers(50) {
		a := toInt(x)
		if !integer.Valid(a) {
			t.Errorf("%s is not valid", brief(a))
		}
	}
	if !integer.Valid(api.Int{Limbs: []uint32{}}) {
		t.Error("0 with an empty list of limbs is not valid")
	}
	for _, a := range append(invalid(), toInt(power(api.MaxBits, 0)), toInt(minus(power(api.MaxBits, 0)))) {
		b := withSpare(a)
		before := copied(memory([]api.Int{b}))
		if integer.Valid(b) {
			t.Errorf("%s is valid", brief(a))
		}
		if !same(memory([]api.Int{b}), before) {
			t.Errorf("%s was changed", brief(a))
		}
	}
}

// R2.1: Of; the limbs of some values are written out.
func TestOf(t *testing.T) {
	for n, want := range map[int]api.Int{
		0:         {},
		1:         {Limbs: []uint32{1}},
		-1:        {Neg: true, Limbs: []uint32{1}},
		1<<32 - 1: {Limbs: []uint32{1<<32 - 1}},
		1 << 32:   {Limbs: []uint32{0, 1}},
		-1 << 32:  {Neg: true, Limbs: []uint32{0, 1}},
		maxInt:    {Limbs: []uint32{1<<32 - 1, 1<<31 - 1}},
		minInt:    {Neg: true, Limbs: []uint32{0, 1 << 31}},
	} {
		got := integer.Of(n)
		if got.Neg != want.Neg || !slices.Equal(got.Limbs, want.Limbs) {
			t.Errorf("%d: %v, want %v", n, got, want)
		}
	}
	first, second := integer.Of(7), integer.Of(7)
	first.Limbs[0] = 8
	if second.Limbs[0] != 7 || integer.Of(7).Limbs[0] != 7 {
		t.Error("results of Of share memory")
	}
}

// R2.1: Small, and that Of goes back.
func TestSmall(t *testing.T) {
	var got int
	c := counting(&got, func(a []api.Int) (int, api.Fault) { return integer.Small(a[0]) })
	for _, x := range append(numbers(100), power(63, 2), minus(power(63, 2)), minus(power(64, 2)), power(95, 5)) {
		if !x.IsInt64() {
			c.expect(t, ints(x), tooLarge)
			continue
		}
		c.expect(t, ints(x), noFault)
		if int64(got) != x.Int64() {
			t.Errorf("%v: %d", x, got)
		}
	}
	for _, n := range []int{0, 1, -1, maxInt, maxInt - 1, minInt, minInt + 1, 1 << 32, -1 << 32} {
		c.expect(t, small(n), noFault)
		if got != n {
			t.Errorf("%d: %d", n, got)
		}
	}
	c.expectForms(t, 1)
}

// R2.1: Bits.
func TestBits(t *testing.T) {
	var got int
	c := counting(&got, func(a []api.Int) (int, api.Fault) { return integer.Bits(a[0]) })
	for _, x := range numbers(50) {
		c.expect(t, ints(x), noFault)
		if got != x.BitLen() {
			t.Errorf("%v: %d", x, got)
		}
	}
	for n, want := range map[int]int{0: 0, -8: 4, 7: 3, -7: 3, minInt: 64, maxInt: 63} {
		c.expect(t, small(n), noFault)
		if got != want {
			t.Errorf("%d: %d, want %d", n, got, want)
		}
	}
	c.expectForms(t, 1)
}

// R2.1: Cmp.
func TestCmp(t *testing.T) {
	var got int
	c := counting(&got, func(a []api.Int) (int, api.Fault) { return integer.Cmp(a[0], a[1]) })
	pairs(func(a, b *big.Int) {
		c.expect(t, ints(a, b), noFault)
		if got != a.Cmp(b) {
			t.Fatalf("%v and %v: %d", a, b, got)
		}
	})
	c.expectForms(t, 2)
}

// Z6: 0 with an empty list of limbs is the same as with none.
func TestEmptyLimbs(t *testing.T) {
	empty := func() api.Int { return api.Int{Limbs: make([]uint32, 0, 3)} }
	five := integer.Of(5)
	two(integer.Add).expect(t, []api.Int{empty(), five}, noFault, big.NewInt(5))
	two(integer.Mul).expect(t, []api.Int{five, empty()}, noFault, big.NewInt(0))
	two(integer.Or).expect(t, []api.Int{empty(), five}, noFault, big.NewInt(5))
	two(integer.Gcd).expect(t, []api.Int{empty(), empty()}, noFault, big.NewInt(0))
	one(integer.Neg).expect(t, []api.Int{empty()}, noFault, big.NewInt(0))
	one(integer.Abs).expect(t, []api.Int{empty()}, noFault, big.NewInt(0))
	one(integer.Sqrt).expect(t, []api.Int{empty()}, noFault, big.NewInt(0))
	one(integer.Not).expect(t, []api.Int{empty()}, noFault, big.NewInt(-1))
	divMod.expect(t, []api.Int{five, empty()}, fault(api.ErrZero, -2))
	if text, fault := integer.Text(empty(), 10); text != "0" || fault != noFault {
		t.Errorf("text %q, fault %v", text, fault)
	}
}
