// Package fixed: numbers with 40 bits behind the point, and whether all that was done with them came to something.
package fixed

import (
	"alidade/api"
)

// Bits behind a number's point: One is 1 << point.
const point = 40

// Flow: whether something went wrong. The zero value is a good one.
type Flow struct {
	Bad bool
}

// Add: a + b.
func (f *Flow) Add(a, b int64) int64 {
	if !f.takes(a, b) {
		return 0
	}
	// 2^62 twice wraps round to -2^63, which is no number either.
	return f.gives(a + b)
}

// Sub: a - b.
func (f *Flow) Sub(a, b int64) int64 {
	if !f.takes(a, b) {
		return 0
	}
	return f.gives(a - b)
}

// Mul: a b, rounded.
func (f *Flow) Mul(a, b int64) int64 {
	if !f.takes(a, b) {
		return 0
	}
	ab := product(size(a), size(b))
	return f.signed(shifted(ab, point), (a < 0) != (b < 0))
}

// Div: a / b, rounded; not defined of b 0.
func (f *Flow) Div(a, b int64) int64 {
	return f.Part(a, api.One, b)
}

// Sqrt: the greatest number whose square isn't above a; not defined below 0.
func (f *Flow) Sqrt(a int64) int64 {
	if !f.takes(a) {
		return 0
	}
	if a < 0 {
		f.Fail()
		return 0
	}
	// A square has twice the bits behind the point.
	return f.signed(root(product(size(a), 1<<point)), false)
}

// Part: a p / q, rounded, p and q being plain integers; not defined of q 0.
func (f *Flow) Part(a int64, p, q int64) int64 {
	if !f.takes(a, p, q) {
		return 0
	}
	if q == 0 {
		f.Fail()
		return 0
	}
	minus := (a < 0) != (p < 0) != (q < 0)
	return f.signed(quotient(product(size(a), size(p)), size(q)), minus)
}

// Mod: what is left of a by m, from 0 up to below m; not defined of m 0 or below.
func (f *Flow) Mod(a, m int64) int64 {
	if !f.takes(a, m) {
		return 0
	}
	if m <= 0 {
		f.Fail()
		return 0
	}
	left := a % m
	if left < 0 {
		left += m
	}
	return left
}

// Norm: the length of the vector (a, b, c), cut.
func (f *Flow) Norm(a, b, c int64) int64 {
	if !f.takes(a, b, c) {
		return 0
	}
	sum := square(a).plus(square(b)).plus(square(c))
	return f.signed(root(sum), false)
}

// Fail makes the flow bad.
func (f *Flow) Fail() {
	if f != nil {
		f.Bad = true
	}
}

// takes tells whether there is something to work with: a good flow, and numbers alone.
func (f *Flow) takes(handed ...int64) bool {
	if f == nil || f.Bad {
		return false
	}
	for _, a := range handed {
		if !isNumber(a) {
			f.Fail()
			return false
		}
	}
	return true
}

// gives answers a, or fails where it is no number.
func (f *Flow) gives(a int64) int64 {
	if !isNumber(a) {
		f.Fail()
		return 0
	}
	return a
}

// signed is gives, of a number's size and its sign.
func (f *Flow) signed(size uint64, minus bool) int64 {
	if size > uint64(api.Most) {
		f.Fail()
		return 0
	}
	if minus {
		return -int64(size)
	}
	return int64(size)
}

func isNumber(a int64) bool {
	return -api.Most <= a && a <= api.Most
}

// size answers |a| of a number.
func size(a int64) uint64 {
	if a < 0 {
		return uint64(-a)
	}
	return uint64(a)
}

// square answers a a of a number.
func square(a int64) wide {
	return product(size(a), size(a))
}
