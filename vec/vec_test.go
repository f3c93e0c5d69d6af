package vec_test

import (
	"math"
	"testing"

	"alidade/api"
	"alidade/fixed"
	"alidade/vec"
)

const (
	one  = api.One
	most = api.Most
)

// call: a function with its arguments, and what it is to answer; bad is whether the flow is to be bad behind it. One number is answered in a vector's first part, two in its first two.
type call struct {
	name string
	do   func(f *fixed.Flow) api.Vec
	want api.Vec
	bad  bool
}

func add(a, b api.Vec) func(*fixed.Flow) api.Vec {
	return func(f *fixed.Flow) api.Vec { return vec.Add(f, a, b) }
}

func sub(a, b api.Vec) func(*fixed.Flow) api.Vec {
	return func(f *fixed.Flow) api.Vec { return vec.Sub(f, a, b) }
}

func scale(a api.Vec, k int64) func(*fixed.Flow) api.Vec {
	return func(f *fixed.Flow) api.Vec { return vec.Scale(f, a, k) }
}

func dot(a, b api.Vec) func(*fixed.Flow) api.Vec {
	return func(f *fixed.Flow) api.Vec { return api.Vec{vec.Dot(f, a, b)} }
}

func cross(a, b api.Vec) func(*fixed.Flow) api.Vec {
	return func(f *fixed.Flow) api.Vec { return vec.Cross(f, a, b) }
}

func norm(a api.Vec) func(*fixed.Flow) api.Vec {
	return func(f *fixed.Flow) api.Vec { return api.Vec{vec.Norm(f, a)} }
}

func unit(a api.Vec) func(*fixed.Flow) api.Vec {
	return func(f *fixed.Flow) api.Vec { return vec.Unit(f, a) }
}

func parts(a, b api.Vec) func(*fixed.Flow) api.Vec {
	return func(f *fixed.Flow) api.Vec {
		sine, cosine := vec.Parts(f, a, b)
		return api.Vec{sine, cosine}
	}
}

func check(t *testing.T, calls []call) {
	t.Helper()
	for _, c := range calls {
		f := &fixed.Flow{}
		got := c.do(f)
		if got != c.want || f.Bad != c.bad {
			t.Errorf("%s: %v, bad %v; want %v, bad %v", c.name, got, f.Bad, c.want, c.bad)
		}
	}
}

func TestAdd(t *testing.T) {
	check(t, []call{
		{"nothing", add(api.Vec{}, api.Vec{}), api.Vec{}, false},
		{"plain", add(api.Vec{1, 2, 3}, api.Vec{10, 20, 30}), api.Vec{11, 22, 33}, false},
		{"minus", add(api.Vec{1, -2, 3}, api.Vec{-10, 20, -30}), api.Vec{-9, 18, -27}, false},
		{"up to most", add(api.Vec{most - 1, most, 0}, api.Vec{1, 0, most}), api.Vec{most, most, most}, false},
		{"down to -most", add(api.Vec{1 - most, -most, 0}, api.Vec{-1, 0, -most}), api.Vec{-most, -most, -most}, false},
		{"one past most, first part alone", add(api.Vec{most, 2, 3}, api.Vec{1, 5, 6}), api.Vec{}, true},
		{"one past most, second part alone", add(api.Vec{1, most, 3}, api.Vec{4, 1, 6}), api.Vec{}, true},
		{"one past most, last part alone", add(api.Vec{1, 2, most}, api.Vec{4, 5, 1}), api.Vec{}, true},
		{"one past -most, last part alone", add(api.Vec{1, 2, -most}, api.Vec{4, 5, -1}), api.Vec{}, true},
		{"most twice", add(api.Vec{1, 2, most}, api.Vec{4, 5, most}), api.Vec{}, true},
		{"no number, though the sum is one", add(api.Vec{1, 2, most + 1}, api.Vec{4, 5, -1}), api.Vec{}, true},
		{"no number below, though the sum is one", add(api.Vec{1, 2, 3}, api.Vec{4, 5, -most - 1}), api.Vec{}, true},
		{"least twice comes to 0", add(api.Vec{math.MinInt64}, api.Vec{math.MinInt64}), api.Vec{}, true},
	})
}

func TestSub(t *testing.T) {
	check(t, []call{
		{"plain", sub(api.Vec{1, 2, 3}, api.Vec{10, 20, 30}), api.Vec{-9, -18, -27}, false},
		{"minus", sub(api.Vec{-1, 2, -3}, api.Vec{-10, -20, 30}), api.Vec{9, 22, -33}, false},
		{"same", sub(api.Vec{most, -most, one}, api.Vec{most, -most, one}), api.Vec{}, false},
		{"up to most", sub(api.Vec{most - 1, most, 0}, api.Vec{-1, 0, -most}), api.Vec{most, most, most}, false},
		{"down to -most", sub(api.Vec{1 - most, -most, 0}, api.Vec{1, 0, most}), api.Vec{-most, -most, -most}, false},
		{"one past most, first part alone", sub(api.Vec{most, 2, 3}, api.Vec{-1, 5, 6}), api.Vec{}, true},
		{"one past most, second part alone", sub(api.Vec{1, most, 3}, api.Vec{4, -1, 6}), api.Vec{}, true},
		{"one past most, last part alone", sub(api.Vec{1, 2, most}, api.Vec{4, 5, -1}), api.Vec{}, true},
		{"one past -most, last part alone", sub(api.Vec{1, 2, -most}, api.Vec{4, 5, 1}), api.Vec{}, true},
		{"no number less itself", sub(api.Vec{1, 2, most + 1}, api.Vec{4, 5, most + 1}), api.Vec{}, true},
		{"no number below less itself", sub(api.Vec{1, 2, -most - 1}, api.Vec{4, 5, -most - 1}), api.Vec{}, true},
	})
}

func TestScale(t *testing.T) {
	check(t, []call{
		{"plain", scale(api.Vec{one, 2 * one, 3 * one}, 2*one), api.Vec{2 * one, 4 * one, 6 * one}, false},
		{"minus", scale(api.Vec{one, -2 * one, 0}, -2*one), api.Vec{-2 * one, 4 * one, 0}, false},
		{"by 0", scale(api.Vec{most, -most, 1}, 0), api.Vec{}, false},
		{"each part is rounded, a half away from 0", scale(api.Vec{1, -1, 3}, one/2), api.Vec{1, -1, 2}, false},
		{"each part is rounded, less than a half to 0", scale(api.Vec{1, -1, 3}, one/2-1), api.Vec{0, 0, 1}, false},
		{"most", scale(api.Vec{most, -most, most / 2}, one), api.Vec{most, -most, most / 2}, false},
		{"most, of most", scale(api.Vec{one, -one, one / 2}, most), api.Vec{most, -most, most / 2}, false},
		{"too much, first part alone", scale(api.Vec{most, 2, 3}, one+1), api.Vec{}, true},
		{"too much, second part alone", scale(api.Vec{1, most, 3}, one+1), api.Vec{}, true},
		{"too much, last part alone", scale(api.Vec{1, 2, most}, one+1), api.Vec{}, true},
		{"too much below, last part alone", scale(api.Vec{1, 2, -most}, one+1), api.Vec{}, true},
		{"k is no number", scale(api.Vec{}, most+1), api.Vec{}, true},
		{"k is no number, below", scale(api.Vec{}, -most-1), api.Vec{}, true},
		{"a part is no number", scale(api.Vec{0, 0, most + 1}, 0), api.Vec{}, true},
	})
}

func TestDot(t *testing.T) {
	x, y := api.Vec{one}, api.Vec{0, one}
	check(t, []call{
		{"upright", dot(x, y), api.Vec{}, false},
		{"itself", dot(x, x), api.Vec{one}, false},
		{"plain", dot(api.Vec{one, 2 * one, 3 * one}, api.Vec{4 * one, -5 * one, 6 * one}), api.Vec{12 * one}, false},
		{"below 0", dot(api.Vec{one, 2 * one, 3 * one}, api.Vec{-4 * one, 5 * one, -6 * one}), api.Vec{-12 * one}, false},
		{"each product is rounded", dot(api.Vec{1, 1, 1}, api.Vec{one / 2, one / 2, one / 2}), api.Vec{3}, false},
		{"each product is rounded below 0", dot(api.Vec{1, 1, 1}, api.Vec{-one / 2, -one / 2, -one / 2}), api.Vec{-3}, false},
		{"products that are cut to 0", dot(api.Vec{1, 1, 1}, api.Vec{one/2 - 1, one/2 - 1, one/2 - 1}), api.Vec{}, false},
		{"most", dot(api.Vec{most - 2, 1, 1}, api.Vec{one, one, one}), api.Vec{most}, false},
		{"most, by way of 0", dot(api.Vec{most, -most, most}, api.Vec{one, one, one}), api.Vec{most}, false},
		{"too much on the way", dot(api.Vec{most, most, -most}, api.Vec{one, one, one}), api.Vec{}, true},
		{"too much at the last product", dot(api.Vec{one, one, most}, api.Vec{one, one, one + 1}), api.Vec{}, true},
		{"too much at the last sum", dot(api.Vec{most - 2, 1, 2}, api.Vec{one, one, one}), api.Vec{}, true},
		{"too much below at the last sum", dot(api.Vec{2 - most, -1, -2}, api.Vec{one, one, one}), api.Vec{}, true},
		{"no number by 0", dot(api.Vec{one, one, most + 1}, api.Vec{one, one, 0}), api.Vec{}, true},
		{"0 by no number", dot(api.Vec{0, one, one}, api.Vec{-most - 1, one, one}), api.Vec{}, true},
	})
}

func TestCross(t *testing.T) {
	x, y, z := api.Vec{one}, api.Vec{0, one}, api.Vec{0, 0, one}
	check(t, []call{
		{"x and y", cross(x, y), z, false},
		{"y and z", cross(y, z), x, false},
		{"z and x", cross(z, x), y, false},
		{"y and x", cross(y, x), api.Vec{0, 0, -one}, false},
		{"z and y", cross(z, y), api.Vec{-one}, false},
		{"x and z", cross(x, z), api.Vec{0, -one}, false},
		{"itself", cross(api.Vec{one, -2 * one, 3 * one}, api.Vec{one, -2 * one, 3 * one}), api.Vec{}, false},
		{"plain", cross(api.Vec{one, 2 * one, 3 * one}, api.Vec{4 * one, -5 * one, 6 * one}), api.Vec{27 * one, 6 * one, -13 * one}, false},
		{"each product is rounded", cross(api.Vec{0, 1, -1}, api.Vec{0, one / 2, one / 2}), api.Vec{2}, false},
		{"most", cross(api.Vec{most, 0, 0}, api.Vec{0, one, one}), api.Vec{0, -most, most}, false},
		{"too much in a product, though the difference is 0", cross(api.Vec{0, 1 << 52, 1 << 52}, api.Vec{0, 1 << 52, 1 << 52}), api.Vec{}, true},
		{"too much, first part alone", cross(api.Vec{one, 1 << 52, 0}, api.Vec{one, 0, 1 << 52}), api.Vec{}, true},
		{"too much, second part alone", cross(api.Vec{0, one, 1 << 52}, api.Vec{1 << 52, one, 0}), api.Vec{}, true},
		{"too much, last part alone", cross(api.Vec{1 << 52, 0, one}, api.Vec{0, 1 << 52, one}), api.Vec{}, true},
		{"too much in the last difference alone", cross(api.Vec{most, one, one}, api.Vec{-one, one, 0}), api.Vec{}, true},
		{"no number by 0", cross(api.Vec{one, one, most + 1}, api.Vec{}), api.Vec{}, true},
		{"0 by no number", cross(api.Vec{}, api.Vec{one, -most - 1, one}), api.Vec{}, true},
	})
}

func TestNorm(t *testing.T) {
	check(t, []call{
		{"nothing", norm(api.Vec{}), api.Vec{}, false},
		{"plain", norm(api.Vec{one, 2 * one, 2 * one}), api.Vec{3 * one}, false},
		{"minus", norm(api.Vec{-3, 4, -12}), api.Vec{13}, false},
		{"first part", norm(api.Vec{-7, 0, 0}), api.Vec{7}, false},
		{"second part", norm(api.Vec{0, -7, 0}), api.Vec{7}, false},
		{"third part", norm(api.Vec{0, 0, -7}), api.Vec{7}, false},
		{"cut", norm(api.Vec{one, one, one}), api.Vec{1904410002820}, false},
		{"most", norm(api.Vec{0, -most, 0}), api.Vec{most}, false},
		{"just most", norm(api.Vec{most, 1 << 31, 1 << 31}), api.Vec{most}, false},
		{"just too much", norm(api.Vec{most, 1 << 31, 1<<31 + 1}), api.Vec{}, true},
		{"a part is no number", norm(api.Vec{0, 0, most + 1}), api.Vec{}, true},
		{"a part is no number below", norm(api.Vec{-most - 1, 0, 0}), api.Vec{}, true},
	})
}

func TestUnit(t *testing.T) {
	check(t, []call{
		{"plain", unit(api.Vec{3 * one, 0, 4 * one}), api.Vec{659706976666, 0, 879609302221}, false},
		{"minus", unit(api.Vec{-3 * one, 4 * one, 0}), api.Vec{-659706976666, 879609302221, 0}, false},
		{"all parts", unit(api.Vec{one, -one, one}), api.Vec{634803334274, -634803334274, 634803334274}, false},
		{"a norm of 2^20", unit(api.Vec{0, -1 << 20, 0}), api.Vec{0, -one, 0}, false},
		{"a norm of 2^20, cut", unit(api.Vec{1 << 20, 1, -1}), api.Vec{one, 1 << 20, -1 << 20}, false},
		{"a norm of 2^20, cut by nearly one", unit(api.Vec{1 << 20, 1024, 1024}), api.Vec{one, 1 << 30, 1 << 30}, false},
		{"one below 2^20", unit(api.Vec{1<<20 - 1, 0, 0}), api.Vec{}, true},
		{"below 2^20 by least", unit(api.Vec{1048575, 1195, -818}), api.Vec{}, true},
		{"a part of -2^20 and one", unit(api.Vec{1 - 1<<20, 0, 0}), api.Vec{}, true},
		{"least", unit(api.Vec{1}), api.Vec{}, true},
		{"nothing", unit(api.Vec{}), api.Vec{}, true},
		{"most", unit(api.Vec{0, 0, -most}), api.Vec{0, 0, -one}, false},
		{"just most", unit(api.Vec{most, 1 << 31, -1 << 31}), api.Vec{one, 512, -512}, false},
		{"rounded away from 0", unit(api.Vec{most, 1 << 21, -1 << 21}), api.Vec{one, 1, -1}, false},
		{"rounded to 0", unit(api.Vec{most, 1<<21 - 1, 1 - 1<<21}), api.Vec{one, 0, 0}, false},
		{"the norm is no number", unit(api.Vec{most, 1 << 31, 1<<31 + 1}), api.Vec{}, true},
		{"the norm is no number by far", unit(api.Vec{most, most, most}), api.Vec{}, true},
		{"a part is no number", unit(api.Vec{one, one, most + 1}), api.Vec{}, true},
		{"a part is no number below", unit(api.Vec{-most - 1, one, one}), api.Vec{}, true},
	})
}

func TestParts(t *testing.T) {
	x, y := api.Vec{one}, api.Vec{0, one}
	short, shortest := api.Vec{1<<20 - 1}, api.Vec{1 << 20}
	check(t, []call{
		{"upright", parts(x, y), api.Vec{one, 0}, false},
		{"upright, the other way round", parts(y, x), api.Vec{one, 0}, false},
		{"itself", parts(x, x), api.Vec{0, one}, false},
		{"against itself", parts(x, api.Vec{-one}), api.Vec{0, -one}, false},
		{"an eighth of a turn", parts(x, api.Vec{one, one}), api.Vec{777472127994, 777472127994}, false},
		{"three eighths of a turn", parts(x, api.Vec{-one, one}), api.Vec{777472127994, -777472127994}, false},
		{"how long they are is nothing", parts(api.Vec{0, 0, most}, shortest), api.Vec{one, 0}, false},
		{"three and four fifths", parts(api.Vec{0, 0, 1000 * one}, api.Vec{0, -3 << 30, 4 << 30}), api.Vec{659706976666, 879609302221}, false},
		{"the first has no unit", parts(short, y), api.Vec{}, true},
		{"the second has no unit", parts(x, short), api.Vec{}, true},
		{"both have none", parts(short, short), api.Vec{}, true},
		{"the first is nothing", parts(api.Vec{}, y), api.Vec{}, true},
		{"the second is nothing", parts(x, api.Vec{}), api.Vec{}, true},
		{"the first is too long", parts(api.Vec{most, most}, y), api.Vec{}, true},
		{"the second is too long", parts(x, api.Vec{most, most}), api.Vec{}, true},
		{"the first is no number", parts(api.Vec{one, 0, most + 1}, y), api.Vec{}, true},
		{"the second is no number", parts(x, api.Vec{one, 0, -most - 1}), api.Vec{}, true},
	})
}

// plain: numbers of which each op answers something else than 0.
func plain() []int64 {
	return []int64{one, 2 * one, -3 * one, 4 * one, -5 * one, 6 * one}
}

func TestNoNumberAtAnyPlace(t *testing.T) {
	for _, o := range ops() {
		for place := range o.takes {
			for _, none := range []int64{most + 1, -most - 1, math.MaxInt64, math.MinInt64} {
				n := plain()
				n[place] = none
				f := &fixed.Flow{}
				if got := o.do(f, n); got != (api.Vec{}) || !f.Bad {
					t.Errorf("%s with %d at %d: %v, bad %v", o.name, none, place, got, f.Bad)
				}
			}
		}
	}
}

func TestGoodFlowGoesOn(t *testing.T) {
	f := &fixed.Flow{}
	for range 2 {
		for _, o := range ops() {
			want, _ := wanted(o, plain()[:o.takes])
			if got := o.do(f, plain()); got != want || want == (api.Vec{}) || f.Bad {
				t.Errorf("%s: %v, bad %v; want %v", o.name, got, f.Bad, want)
			}
		}
	}
}

func TestFlowHandedInBad(t *testing.T) {
	for _, o := range ops() {
		f := &fixed.Flow{Bad: true}
		if got := o.do(f, plain()); got != (api.Vec{}) || !f.Bad {
			t.Errorf("%s: %v, bad %v", o.name, got, f.Bad)
		}
	}
}

func TestBadFlowStaysBad(t *testing.T) {
	for _, first := range ops() {
		f := &fixed.Flow{}
		first.do(f, []int64{most + 1, 0, 0, 0, 0, 0})
		for _, o := range ops() {
			if got := o.do(f, plain()); got != (api.Vec{}) || !f.Bad {
				t.Errorf("%s behind %s: %v, bad %v", o.name, first.name, got, f.Bad)
			}
		}
	}
}

func TestNilFlow(t *testing.T) {
	for _, o := range ops() {
		for _, n := range [][]int64{plain(), make([]int64, 6), {most, most, most, most, most, most}, {math.MinInt64, 0, 0, math.MaxInt64, 0, 0}} {
			if got := o.do(nil, n); got != (api.Vec{}) {
				t.Errorf("%s of %v: %v", o.name, n, got)
			}
		}
	}
}
