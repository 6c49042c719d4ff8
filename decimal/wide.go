package decimal

import (
	"brindlewood/natural"
)

// The package drops the faults of package natural, since no number here is too long for it. The longest one is the exact sum of Fma: its digits reach from the power 2 * (api.MaxPower + api.MaxCoef) down to -api.MaxPower, or from api.MaxPower + api.MaxCoef down to -2 * api.MaxPower. That is fewer than 4000 digits, and api.MaxNatural limbs have more than 5700.

// one returns the number 1.
func one() []uint32 {
	return []uint32{1}
}

// tenTo returns 10^n, where n is not negative.
func tenTo(n int) []uint32 {
	result, square := one(), []uint32{10}
	for {
		if n%2 == 1 {
			result = times(result, square)
		}
		if n /= 2; n == 0 {
			return result
		}
		square = times(square, square)
	}
}

// scaled returns a * 10^n, where n is not negative.
func scaled(a []uint32, n int) []uint32 {
	return times(a, tenTo(n))
}

// times returns a * b.
func times(a, b []uint32) []uint32 {
	product, _ := natural.Mul(a, b)
	return product
}

// compare returns -1, 0 or 1 if a is less than, equal to or greater than b.
func compare(a, b []uint32) int {
	order, _ := natural.Cmp(a, b)
	return order
}
