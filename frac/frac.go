// Package frac is layer 1: checked integers, and fractions in lowest terms: see shared/doc/01-frac.md.
package frac

import (
	"cmp"
	"math"
	"math/bits"

	"oxbow/api"
)

// wide is an unsigned number of 128 bits: its high half, then its low half.
type wide [2]uint64

// Add is a sum; false: it can't be an int.
func Add(a, b int) (int, bool) {
	sum := a + b
	if (b >= 0) != (sum >= a) {
		return 0, false
	}
	return sum, true
}

// Mul is a product; false: it can't be an int.
func Mul(a, b int) (int, bool) {
	p := product(size(a), size(b))
	negative := (a < 0) != (b < 0)
	if negative && p == (wide{0, 1 << 63}) {
		return math.MinInt, true // the one int whose size is no int
	}
	n, ok := p.narrow()
	if negative {
		n = -n
	}
	return n, ok
}

// Gcd is the greatest number that divides both; 0 if one is negative.
func Gcd(a, b int) int {
	if a < 0 || b < 0 {
		return 0
	}
	for b != 0 {
		a, b = b, a%b
	}
	return a
}

// Of is a fraction in lowest terms; false: it is none.
func Of(n, d int) (api.Frac, bool) {
	if n < 0 || d < 1 {
		return api.Frac{}, false
	}
	g := Gcd(n, d)
	return api.Frac{N: n / g, D: d / g}, true
}

// Cmp is -1, 0, 1: a is below b, equal to it, above it.
func Cmp(a, b api.Frac) int {
	x := product(uint64(a.N), uint64(b.D))
	y := product(uint64(b.N), uint64(a.D))
	if x == y {
		return 0
	}
	if x[0] != y[0] {
		return cmp.Compare(x[0], y[0])
	}
	return cmp.Compare(x[1], y[1])
}

// Times is a product; false: it can't be a Frac.
func Times(a, b api.Frac) (api.Frac, bool) {
	if !usable(a) || !usable(b) {
		return api.Frac{}, false
	}
	// What is left behind dividing crosswise has no divisor in common.
	g, h := Gcd(a.N, b.D), Gcd(b.N, a.D)
	n, fits := Mul(a.N/g, b.N/h)
	d, fine := Mul(a.D/h, b.D/g)
	return pair(n, d, fits && fine)
}

// Plus is a sum; false: it can't be a Frac.
func Plus(a, b api.Frac) (api.Frac, bool) {
	if !usable(a) || !usable(b) {
		return api.Frac{}, false
	}
	g := Gcd(a.D, b.D)
	sum := add(product(uint64(a.N), uint64(b.D/g)), product(uint64(b.N), uint64(a.D/g)))
	// Only a divisor of g can divide both the sum and the common denominator.
	h := Gcd(sum.rest(g), g)
	n, fits := sum.divide(h).narrow()
	d, fine := Mul(a.D/g, b.D/h)
	return pair(n, d, fits && fine)
}

// Ceil is the least whole number that is not below a fraction.
func Ceil(a api.Frac) int {
	if !usable(a) {
		return 0
	}
	n := a.N / a.D
	if a.N%a.D != 0 {
		n++
	}
	return n
}

// usable tells whether a fraction can be reckoned with: its N is not negative, and its D above 0.
func usable(a api.Frac) bool { return a.N >= 0 && a.D >= 1 }

// pair is the fraction of n and d if they fit, else none.
func pair(n, d int, fit bool) (api.Frac, bool) {
	if !fit {
		return api.Frac{}, false
	}
	return api.Frac{N: n, D: d}, true
}

// size is how far a number is from 0.
func size(n int) uint64 {
	if n < 0 {
		return -uint64(n)
	}
	return uint64(n)
}

func product(a, b uint64) wide {
	high, low := bits.Mul64(a, b)
	return wide{high, low}
}

// add is the sum of two numbers below 2^127.
func add(x, y wide) wide {
	low, carry := bits.Add64(x[1], y[1], 0)
	high, _ := bits.Add64(x[0], y[0], carry)
	return wide{high, low}
}

// rest is what is left over of x by d, which is 1 or more.
func (x wide) rest(d int) int {
	return int(bits.Rem64(x[0], x[1], uint64(d)))
}

// divide is x by d, which is 1 or more, rounded down.
func (x wide) divide(d int) wide {
	high := x[0] / uint64(d)
	low, _ := bits.Div64(x[0]%uint64(d), x[1], uint64(d))
	return wide{high, low}
}

// narrow is x as an int; false: it can't be one.
func (x wide) narrow() (int, bool) {
	if x[0] != 0 || x[1] > math.MaxInt {
		return 0, false
	}
	return int(x[1]), true
}
