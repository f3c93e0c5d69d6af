package trig_test

import (
	"math"
	"testing"

	"alidade/api"
	"alidade/fixed"
	"alidade/trig"
)

const (
	one        = api.One
	most       = api.Most
	h    int64 = 1727108826179
)

// call: a function with its arguments, and what it is to answer; bad is whether the flow is to be bad behind it.
type call struct {
	name string
	do   func(f *fixed.Flow) int64
	want int64
	bad  bool
}

func sin(a int64) func(*fixed.Flow) int64 {
	return func(f *fixed.Flow) int64 { return trig.Sin(f, a) }
}

func cos(a int64) func(*fixed.Flow) int64 {
	return func(f *fixed.Flow) int64 { return trig.Cos(f, a) }
}

func atan2(y, x int64) func(*fixed.Flow) int64 {
	return func(f *fixed.Flow) int64 { return trig.Atan2(f, y, x) }
}

func asin(s int64) func(*fixed.Flow) int64 {
	return func(f *fixed.Flow) int64 { return trig.Asin(f, s) }
}

func acos(c int64) func(*fixed.Flow) int64 {
	return func(f *fixed.Flow) int64 { return trig.Acos(f, c) }
}

func check(t *testing.T, calls []call) {
	t.Helper()
	for _, c := range calls {
		f := &fixed.Flow{}
		got := c.do(f)
		if got != c.want || f.Bad != c.bad {
			t.Errorf("%s: %d, bad %v; want %d, bad %v", c.name, got, f.Bad, c.want, c.bad)
		}
	}
}

func TestSin(t *testing.T) {
	check(t, []call{
		{"0", sin(0), 0, false},
		{"least", sin(1), 1, false},
		{"one below h", sin(h - 1), 1099511627775, false},
		{"h", sin(h), one, false},
		{"one below 2h", sin(2*h - 1), 1, false},
		{"2h", sin(2 * h), 0, false},
		{"one below 3h", sin(3*h - 1), -1099511627775, false},
		{"3h", sin(3 * h), -one, false},
		{"one below 4h", sin(4*h - 1), -1, false},
		{"4h", sin(4 * h), 0, false},
		{"5h", sin(5 * h), one, false},
		{"one below 0", sin(-1), -1, false},
		{"-h", sin(-h), -one, false},
		{"one below -h", sin(-h - 1), -1099511627775, false},
		{"-2h", sin(-2 * h), 0, false},
		{"-3h", sin(-3 * h), one, false},
		{"-4h", sin(-4 * h), 0, false},
		{"one below -4h", sin(-4*h - 1), -1, false},
		{"a third of h", sin(h / 3), 549755813887, false},
		{"half of h", sin(h / 2), 777472127993, false},
		{"half", sin(one / 2), 527133954348, false},
		{"1, first quarter", sin(one), 925207132232, false},
		{"2, second quarter", sin(2 * one), 999783093902, false},
		{"4, third quarter", sin(4 * one), -832113143521, false},
		{"5, fourth quarter", sin(5 * one), -1054348390149, false},
		{"-1", sin(-one), -925207132232, false},
		{"-2", sin(-2 * one), -999783093902, false},
		{"-4", sin(-4 * one), 832113143520, false},
		{"-5", sin(-5 * one), 1054348390149, false},
		{"100", sin(100 * one), -556754910316, false},
		{"-100", sin(-100 * one), 556754910316, false},
		{"most", sin(most), 1072166000868, false},
		{"one below most", sin(most - 1), 1072166000867, false},
		{"-most", sin(-most), -1072166000868, false},
		{"one past most", sin(most + 1), 0, true},
		{"one past -most", sin(-most - 1), 0, true},
		{"greatest", sin(math.MaxInt64), 0, true},
		{"least int64", sin(math.MinInt64), 0, true},
	})
}

func TestCos(t *testing.T) {
	check(t, []call{
		{"0", cos(0), one, false},
		{"least", cos(1), one, false},
		{"one below h", cos(h - 1), 1, false},
		{"h", cos(h), 0, false},
		{"one above h", cos(h + 1), -1, false},
		{"one below 2h", cos(2*h - 1), -1099511627775, false},
		{"2h", cos(2 * h), -one, false},
		{"one below 3h", cos(3*h - 1), -1, false},
		{"3h", cos(3 * h), 0, false},
		{"one above 3h", cos(3*h + 1), 1, false},
		{"one below 4h", cos(4*h - 1), 1099511627775, false},
		{"4h", cos(4 * h), one, false},
		{"5h", cos(5 * h), 0, false},
		{"one below 0", cos(-1), 1099511627775, false},
		{"-h", cos(-h), 0, false},
		{"one below -h", cos(-h - 1), -1, false},
		{"-2h", cos(-2 * h), -one, false},
		{"-3h", cos(-3 * h), 0, false},
		{"-4h", cos(-4 * h), one, false},
		{"one below -4h", cos(-4*h - 1), 1099511627775, false},
		{"a third of h", cos(h / 3), 952205001411, false},
		{"half of h", cos(h / 2), 777472127994, false},
		{"half", cos(one / 2), 964912231132, false},
		{"1, first quarter", cos(one), 594068667816, false},
		{"2, second quarter", cos(2 * one), -457558285646, false},
		{"4, third quarter", cos(4 * one), -718688761561, false},
		{"5, fourth quarter", cos(5 * one), 311889871277, false},
		{"-1", cos(-one), 594068667816, false},
		{"-2", cos(-2 * one), -457558285645, false},
		{"-4", cos(-4 * one), -718688761561, false},
		{"-5", cos(-5 * one), 311889871277, false},
		{"100", cos(100 * one), 948129626925, false},
		{"-100", cos(-100 * one), 948129626925, false},
		{"most", cos(most), 243692195602, false},
		{"one below most", cos(most - 1), 243692195603, false},
		{"-most", cos(-most), 243692195603, false},
		{"one past most", cos(most + 1), 0, true},
		{"one past -most", cos(-most - 1), 0, true},
		{"greatest", cos(math.MaxInt64), 0, true},
		{"least int64", cos(math.MinInt64), 0, true},
	})
}

func TestAtan2OnTheAxes(t *testing.T) {
	check(t, []call{
		{"both 0", atan2(0, 0), 0, false},
		{"y 0", atan2(0, one), 0, false},
		{"y 0, x least", atan2(0, 1), 0, false},
		{"y 0, x most", atan2(0, most), 0, false},
		{"y 0, x below 0", atan2(0, -one), 2 * h, false},
		{"y 0, x one below 0", atan2(0, -1), 2 * h, false},
		{"y 0, x -most", atan2(0, -most), 2 * h, false},
		{"x 0", atan2(one, 0), h, false},
		{"x 0, y least", atan2(1, 0), h, false},
		{"x 0, y most", atan2(most, 0), h, false},
		{"x 0, y below 0", atan2(-one, 0), -h, false},
		{"x 0, y one below 0", atan2(-1, 0), -h, false},
		{"x 0, y -most", atan2(-most, 0), -h, false},
	})
}

func TestAtan2BetweenTheAxes(t *testing.T) {
	check(t, []call{
		{"the same", atan2(7, 7), 863554413092, false},
		{"the same, 1", atan2(one, one), 863554413092, false},
		{"the same, x below 0", atan2(7, -7), 2590663239266, false},
		{"the same, y below 0", atan2(-7, 7), -863554413092, false},
		{"the same, both below 0", atan2(-7, -7), -2590663239266, false},
		{"the same, most", atan2(most, most), 863554413092, false},
		{"the same, most and -most", atan2(most, -most), 2590663239266, false},
		{"the same, -most", atan2(-most, -most), -2590663239266, false},
		{"first quarter, flat", atan2(one, 2*one), 509785937288, false},
		{"first quarter, steep", atan2(2*one, one), 1217322888891, false},
		{"second quarter, flat", atan2(one, -2*one), 2944431715070, false},
		{"second quarter, steep", atan2(2*one, -one), 2236894763467, false},
		{"third quarter, flat", atan2(-one, -2*one), -2944431715070, false},
		{"third quarter, steep", atan2(-2*one, -one), -2236894763467, false},
		{"fourth quarter, flat", atan2(-one, 2*one), -509785937288, false},
		{"fourth quarter, steep", atan2(-2*one, one), -1217322888891, false},
		{"three and four", atan2(3, 4), 707536951604, false},
		{"little y", atan2(1, one), 4, false},
		{"little x", atan2(one, 1), 1727108826175, false},
		{"half is farther from 0", atan2(1, 2*one), 4, false},
		{"less than half", atan2(1, 2*one+1), 0, false},
		{"half, second quarter", atan2(1, -2*one), 3454217652354, false},
		{"half, fourth quarter", atan2(-1, 2*one), -4, false},
		{"least and most", atan2(1, most), 0, false},
		{"most and least", atan2(most, 1), h, false},
		{"least and -most, below 0", atan2(-1, -most), -2 * h, false},
		{"-most and least, below 0", atan2(-most, -1), -h, false},
		{"just steep", atan2(most, most-1), 863554413087, false},
		{"just flat", atan2(most-1, most), 863554413092, false},
	})
}

func TestAtan2OfNoNumbers(t *testing.T) {
	for _, no := range []int64{most + 1, -most - 1, math.MaxInt64, math.MinInt64} {
		for _, a := range []int64{0, 1, -1, one, -one, most, -most, no, math.MinInt64} {
			check(t, []call{
				{"y no number", atan2(no, a), 0, true},
				{"x no number", atan2(a, no), 0, true},
			})
		}
	}
}

func TestAsin(t *testing.T) {
	check(t, []call{
		{"0", asin(0), 0, false},
		{"least", asin(1), 4, false},
		{"one below 0", asin(-1), -4, false},
		{"half", asin(one / 2), 575702942060, false},
		{"minus half", asin(-one / 2), -575702942060, false},
		{"quarter", asin(one / 4), 277824878640, false},
		{"three quarters", asin(3 * one / 4), 932454116919, false},
		{"minus three quarters", asin(-3 * one / 4), -932454116919, false},
		{"two thirds", asin(733007751851), 802344043132, false},
		{"two below 1", asin(one - 2), 1727106729027, false},
		{"one below 1", asin(one - 1), 1727107343267, false},
		{"1", asin(one), h, false},
		{"one past 1", asin(one + 1), 0, true},
		{"one above -1", asin(1 - one), -1727107343267, false},
		{"-1", asin(-one), -h, false},
		{"one past -1", asin(-one - 1), 0, true},
		{"2", asin(2 * one), 0, true},
		{"most", asin(most), 0, true},
		{"-most", asin(-most), 0, true},
		{"greatest", asin(math.MaxInt64), 0, true},
		{"least int64", asin(math.MinInt64), 0, true},
	})
}

func TestAcos(t *testing.T) {
	check(t, []call{
		{"0", acos(0), h, false},
		{"least", acos(1), 1727108826175, false},
		{"one below 0", acos(-1), 1727108826183, false},
		{"half", acos(one / 2), 1151405884119, false},
		{"minus half", acos(-one / 2), 2302811768239, false},
		{"quarter", acos(one / 4), 1449283947539, false},
		{"three quarters", acos(3 * one / 4), 794654709260, false},
		{"minus three quarters", acos(-3 * one / 4), 2659562943098, false},
		{"two thirds", acos(733007751851), 924764783047, false},
		{"two below 1", acos(one - 2), 2097152, false},
		{"one below 1", acos(one - 1), 1482912, false},
		{"1", acos(one), 0, false},
		{"one past 1", acos(one + 1), 0, true},
		{"one above -1", acos(1 - one), 3454216169446, false},
		{"-1", acos(-one), 2 * h, false},
		{"one past -1", acos(-one - 1), 0, true},
		{"2", acos(2 * one), 0, true},
		{"most", acos(most), 0, true},
		{"-most", acos(-most), 0, true},
		{"greatest", acos(math.MaxInt64), 0, true},
		{"least int64", acos(math.MinInt64), 0, true},
	})
}

// all: calls of each function, in each of its branches; most of them a good flow answers with something else than 0.
func all() []call {
	var calls []call
	for _, a := range []int64{0, one, 2 * one, 4 * one, 5 * one, -one} {
		calls = append(calls, call{name: "Sin", do: sin(a)}, call{name: "Cos", do: cos(a)})
	}
	for _, y := range []int64{-2, -1, 0, 1, 2} {
		for _, x := range []int64{-2, -1, 0, 1, 2} {
			calls = append(calls, call{name: "Atan2", do: atan2(y, x)})
		}
	}
	for _, s := range []int64{-one - 1, -one, 0, one / 2, one, one + 1} {
		calls = append(calls, call{name: "Asin", do: asin(s)}, call{name: "Acos", do: acos(s)})
	}
	return calls
}

func TestFlowBadAhead(t *testing.T) {
	for _, c := range all() {
		f := &fixed.Flow{Bad: true}
		if got := c.do(f); got != 0 || !f.Bad {
			t.Errorf("%s: %d, bad %v", c.name, got, f.Bad)
		}
	}
}

func TestNilFlow(t *testing.T) {
	for _, c := range all() {
		if got := c.do(nil); got != 0 {
			t.Errorf("%s: %d", c.name, got)
		}
	}
}

// A flow that a call made bad stays so, whatever the next one is.
func TestBadFlowStaysBad(t *testing.T) {
	spoilt := []call{
		{name: "Sin", do: sin(most + 1)},
		{name: "Cos", do: cos(most + 1)},
		{name: "Atan2", do: atan2(most+1, 1)},
		{name: "Asin", do: asin(one + 1)},
		{name: "Acos", do: acos(one + 1)},
	}
	for _, s := range spoilt {
		f := &fixed.Flow{}
		s.do(f)
		for _, c := range all() {
			if got := c.do(f); got != 0 || !f.Bad {
				t.Errorf("%s behind %s: %d, bad %v", c.name, s.name, got, f.Bad)
			}
		}
	}
}

// One good flow serves many calls, and what it answers hangs on their arguments alone.
func TestGoodFlowGoesOn(t *testing.T) {
	shared := &fixed.Flow{}
	for range 2 {
		for _, c := range all() {
			own := &fixed.Flow{}
			want := c.do(own)
			if own.Bad {
				continue
			}
			if got := c.do(shared); got != want || shared.Bad {
				t.Errorf("%s: %d, bad %v; want %d", c.name, got, shared.Bad, want)
			}
		}
	}
}
