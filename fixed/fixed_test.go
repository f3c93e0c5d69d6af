package fixed_test

import (
	"math"
	"testing"

	"alidade/api"
	"alidade/fixed"
)

const (
	one  = api.One
	most = api.Most
)

// call: a method of a flow with its arguments, and what it is to answer; bad is whether the flow is to be bad behind it.
type call struct {
	name string
	do   func(f *fixed.Flow) int64
	want int64
	bad  bool
}

func add(a, b int64) func(*fixed.Flow) int64 {
	return func(f *fixed.Flow) int64 { return f.Add(a, b) }
}

func sub(a, b int64) func(*fixed.Flow) int64 {
	return func(f *fixed.Flow) int64 { return f.Sub(a, b) }
}

func mul(a, b int64) func(*fixed.Flow) int64 {
	return func(f *fixed.Flow) int64 { return f.Mul(a, b) }
}

func div(a, b int64) func(*fixed.Flow) int64 {
	return func(f *fixed.Flow) int64 { return f.Div(a, b) }
}

func sqrt(a int64) func(*fixed.Flow) int64 {
	return func(f *fixed.Flow) int64 { return f.Sqrt(a) }
}

func part(a, p, q int64) func(*fixed.Flow) int64 {
	return func(f *fixed.Flow) int64 { return f.Part(a, p, q) }
}

func mod(a, m int64) func(*fixed.Flow) int64 {
	return func(f *fixed.Flow) int64 { return f.Mod(a, m) }
}

func norm(a, b, c int64) func(*fixed.Flow) int64 {
	return func(f *fixed.Flow) int64 { return f.Norm(a, b, c) }
}

func check(t *testing.T, calls []call) {
	t.Helper()
	for _, c := range calls {
		f := &fixed.Flow{}
		got := c.do(f)
		if got != c.want || f.Bad != c.bad {
			t.Errorf("%s: %d, bad %v; want %d, bad %v", c.name, got, f.Bad, c.want, c.bad)
		}
	}
}

func TestAdd(t *testing.T) {
	check(t, []call{
		{"nothing", add(0, 0), 0, false},
		{"plain", add(3*one, one/2), 7 * one / 2, false},
		{"minus", add(-5, 3), -2, false},
		{"up to most", add(most-1, 1), most, false},
		{"one past most", add(most, 1), 0, true},
		{"down to -most", add(1-most, -1), -most, false},
		{"one past -most", add(-most, -1), 0, true},
		{"most twice", add(most, most), 0, true},
		{"-most twice", add(-most, -most), 0, true},
		{"both ends", add(most, -most), 0, false},
		{"a above", add(most+1, -1), 0, true},
		{"b above", add(-1, most+1), 0, true},
		{"a below", add(-most-1, 1), 0, true},
		{"b below", add(1, -most-1), 0, true},
		{"least", add(math.MinInt64, math.MaxInt64), 0, true},
		{"greatest", add(math.MaxInt64, math.MinInt64), 0, true},
		{"least twice comes to 0", add(math.MinInt64, math.MinInt64), 0, true},
	})
}

func TestSub(t *testing.T) {
	check(t, []call{
		{"plain", sub(one, -one), 2 * one, false},
		{"order", sub(2, 5), -3, false},
		{"up to most", sub(most-1, -1), most, false},
		{"one past most", sub(most, -1), 0, true},
		{"down to -most", sub(1-most, 1), -most, false},
		{"one past -most", sub(-most, 1), 0, true},
		{"most less -most", sub(most, -most), 0, true},
		{"-most less most", sub(-most, most), 0, true},
		{"same", sub(most, most), 0, false},
		{"a above", sub(most+1, 1), 0, true},
		{"b above", sub(most, most+1), 0, true},
		{"a below", sub(-most-1, -1), 0, true},
		{"b below", sub(-most, -most-1), 0, true},
		{"least less least", sub(math.MinInt64, math.MinInt64), 0, true},
		{"greatest less greatest", sub(math.MaxInt64, math.MaxInt64), 0, true},
	})
}

func TestMul(t *testing.T) {
	check(t, []call{
		{"plain", mul(3*one/2, 3*one/2), 9 * one / 4, false},
		{"minus", mul(-3*one, 2*one), -6 * one, false},
		{"minus twice", mul(-3*one, -2*one), 6 * one, false},
		{"by 0", mul(most, 0), 0, false},
		{"half is farther from 0", mul(1, one/2), 1, false},
		{"minus half is farther from 0", mul(-1, one/2), -1, false},
		{"half by minus", mul(1, -one/2), -1, false},
		{"one and a half", mul(3, one/2), 2, false},
		{"less than half", mul(1, one/2-1), 0, false},
		{"minus less than half", mul(-1, one/2-1), 0, false},
		{"more than half", mul(1, one/2+1), 1, false},
		{"most", mul(most, one), most, false},
		{"-most", mul(most, -one), -most, false},
		{"most of two roots", mul(1<<51, 1<<51), most, false},
		{"just too much", mul(most, one+1), 0, true},
		{"just too much below", mul(-most, one+1), 0, true},
		{"half below most", mul(7<<39, 1317624576693539401), most, false},
		{"half above -most", mul(-7<<39, 1317624576693539401), -most, false},
		{"quarter past most", mul(274177<<38, 67280421310721), most, false},
		{"quarter past -most", mul(274177<<38, -67280421310721), -most, false},
		{"half past most", mul(9<<39, 1024819115206086201), 0, true},
		{"half past -most", mul(-9<<39, 1024819115206086201), 0, true},
		{"one past most", mul(5<<40, 922337203685477581), 0, true},
		{"most twice", mul(most, most), 0, true},
		{"most and -most", mul(most, -most), 0, true},
		{"a above", mul(most+1, 0), 0, true},
		{"b above", mul(0, most+1), 0, true},
		{"a below", mul(-most-1, 1), 0, true},
		{"b below", mul(1, -most-1), 0, true},
		{"least", mul(math.MinInt64, 1), 0, true},
		{"greatest", mul(1, math.MaxInt64), 0, true},
	})
}

func TestDiv(t *testing.T) {
	check(t, []call{
		{"third", div(one, 3*one), 366503875925, false},
		{"two thirds", div(2*one, 3*one), 733007751851, false},
		{"minus two thirds", div(-2*one, 3*one), -733007751851, false},
		{"minus", div(-one, 2*one), -one / 2, false},
		{"by minus", div(one, -2*one), -one / 2, false},
		{"minus by minus", div(-one, -2*one), one / 2, false},
		{"0", div(0, -5), 0, false},
		{"half is farther from 0", div(1, 2*one), 1, false},
		{"minus half is farther from 0", div(-1, 2*one), -1, false},
		{"half by minus", div(1, -2*one), -1, false},
		{"less than half", div(1, 2*one+1), 0, false},
		{"more than half", div(1, 2*one-1), 1, false},
		{"most", div(most, one), most, false},
		{"-most", div(most, -one), -most, false},
		{"most of little", div(1<<22, 1), most, false},
		{"just too much of little", div(1<<22+1, 1), 0, true},
		{"most of a half", div(most/2, one/2), most, false},
		{"just too much of a half", div(most/2+1, one/2), 0, true},
		{"just too much", div(most, one-1), 0, true},
		{"just too much below", div(most, 1-one), 0, true},
		{"much too much", div(most, 1), 0, true},
		{"most by most", div(most, most), one, false},
		{"most by -most", div(most, -most), -one, false},
		{"by 0", div(one, 0), 0, true},
		{"0 by 0", div(0, 0), 0, true},
		{"a above", div(most+1, most), 0, true},
		{"b above", div(one, most+1), 0, true},
		{"a below", div(-most-1, most), 0, true},
		{"b below", div(one, -most-1), 0, true},
		{"least", div(math.MinInt64, math.MinInt64), 0, true},
		{"greatest", div(0, math.MaxInt64), 0, true},
	})
}

func TestSqrt(t *testing.T) {
	check(t, []call{
		{"0", sqrt(0), 0, false},
		{"two is cut, not rounded", sqrt(2 * one), 1554944255987, false},
		{"three is cut, too", sqrt(3 * one), 1904410002820, false},
		{"square", sqrt(9 * one), 3 * one, false},
		{"beside a square, below", sqrt(9*one - 1), 3*one - 1, false},
		{"beside a square, above", sqrt(9*one + 1), 3 * one, false},
		{"quarter", sqrt(one / 4), one / 2, false},
		{"least", sqrt(1), 1 << 20, false},
		{"two of the least", sqrt(2), 1482910, false},
		{"most", sqrt(most), 1 << 51, false},
		{"beside most", sqrt(most - 1), 1<<51 - 1, false},
		{"one past most", sqrt(most + 1), 0, true},
		{"greatest", sqrt(math.MaxInt64), 0, true},
		{"below 0", sqrt(-1), 0, true},
		{"-most", sqrt(-most), 0, true},
		{"one past -most", sqrt(-most - 1), 0, true},
		{"the least int64", sqrt(math.MinInt64), 0, true},
	})
}

func TestPart(t *testing.T) {
	check(t, []call{
		{"plain", part(6, 5, 3), 10, false},
		{"half is farther from 0", part(7, 1, 2), 4, false},
		{"minus half is farther from 0", part(-7, 1, 2), -4, false},
		{"half of minus p", part(7, -1, 2), -4, false},
		{"half of minus q", part(7, 1, -2), -4, false},
		{"half of two minus", part(-7, -1, 2), 4, false},
		{"half of three minus", part(-7, -1, -2), -4, false},
		{"less than half", part(1, 1, 3), 0, false},
		{"more than half", part(2, 1, 3), 1, false},
		{"less than half of an odd one", part(7, 1, 15), 0, false},
		{"more than half of an odd one", part(8, 1, 15), 1, false},
		{"p 0", part(most, 0, 1), 0, false},
		{"a 0", part(0, most, -1), 0, false},
		{"whole", part(most, most, most), most, false},
		{"whole, minus", part(most, -most, most), -most, false},
		{"just most", part(most/2, 2, 1), most, false},
		{"just too much", part(most/2+1, 2, 1), 0, true},
		{"just too much below", part(-most/2-1, 2, 1), 0, true},
		{"half below most", part(1317624576693539401, 7, 2), most, false},
		{"half above -most", part(1317624576693539401, -7, 2), -most, false},
		{"third past most", part(1064235235021704901, 13, 3), most, false},
		{"third past -most", part(1064235235021704901, 13, -3), -most, false},
		{"half past most", part(3074457345618258603, 3, 2), 0, true},
		{"half past -most", part(-3074457345618258603, 3, 2), 0, true},
		{"two thirds past most", part(1976436865040309102, 7, 3), 0, true},
		{"two thirds below most", part(2767011611056432742, 5, 3), most - 1, false},
		{"one past most", part(most, most, most-1), 0, true},
		{"fits no word", part(most, 4, 1), 0, true},
		{"much too much", part(most, most, 1), 0, true},
		{"q 0", part(1, 1, 0), 0, true},
		{"all 0", part(0, 0, 0), 0, true},
		{"a above", part(most+1, 0, 1), 0, true},
		{"p above", part(0, most+1, 1), 0, true},
		{"q above", part(0, 0, most+1), 0, true},
		{"a below", part(-most-1, 0, 1), 0, true},
		{"p below", part(0, -most-1, 1), 0, true},
		{"q below", part(0, 0, -most-1), 0, true},
		{"least", part(1, math.MinInt64, math.MinInt64), 0, true},
		{"greatest", part(1, math.MaxInt64, math.MaxInt64), 0, true},
	})
}

func TestMod(t *testing.T) {
	check(t, []call{
		{"plain", mod(13, 5), 3, false},
		{"minus", mod(-1, 5), 4, false},
		{"minus, more than once", mod(-13, 5), 2, false},
		{"whole", mod(15, 5), 0, false},
		{"minus whole", mod(-15, 5), 0, false},
		{"0", mod(0, 5), 0, false},
		{"one below m", mod(4, 5), 4, false},
		{"of 1", mod(-7, 1), 0, false},
		{"most by most", mod(most, most), 0, false},
		{"-most by most", mod(-most, most), 0, false},
		{"-1 by most", mod(-1, most), most - 1, false},
		{"most by less", mod(most, most-1), 1, false},
		{"-most by less", mod(-most, most-1), most - 2, false},
		{"m 0", mod(1, 0), 0, true},
		{"m below 0", mod(1, -5), 0, true},
		{"m -most", mod(0, -most), 0, true},
		{"a above", mod(most+1, 5), 0, true},
		{"m above", mod(1, most+1), 0, true},
		{"a below", mod(-most-1, 5), 0, true},
		{"m below", mod(1, -most-1), 0, true},
		{"least", mod(math.MinInt64, -1), 0, true},
		{"greatest", mod(math.MaxInt64, math.MaxInt64), 0, true},
	})
}

func TestNorm(t *testing.T) {
	check(t, []call{
		{"0", norm(0, 0, 0), 0, false},
		{"plain", norm(3, -4, 12), 13, false},
		{"of numbers", norm(3*one, 0, -4*one), 5 * one, false},
		{"cut", norm(1, 1, 1), 1, false},
		{"beside a square, above", norm(3, 4, 1), 5, false},
		{"beside a square, below", norm(2, 1, 1), 2, false},
		{"just below three", norm(2, 2, 0), 2, false},
		{"three", norm(2, 2, 1), 3, false},
		{"great", norm(1<<61, 1<<61, 1<<61), 3993837246235628775, false},
		{"most, first", norm(most, 0, 0), most, false},
		{"-most, second", norm(0, -most, 0), most, false},
		{"most, third", norm(0, 0, most), most, false},
		{"beside most", norm(most, 1, 1), most, false},
		{"just most", norm(most, 1<<31, 1<<31), most, false},
		{"just too much", norm(most, 1<<31, 1<<31+1), 0, true},
		{"nearly one past most", norm(most-1, 1<<32-1, 92681), most, false},
		{"one past most", norm(most-1, 0, 1<<32), 0, true},
		{"a carry between the words", norm(1<<32-1, 1<<32-1, 1<<32-1), 7439101571, false},
		{"most three times", norm(most, -most, most), 0, true},
		{"a above", norm(most+1, 0, 0), 0, true},
		{"b above", norm(0, most+1, 0), 0, true},
		{"c above", norm(0, 0, most+1), 0, true},
		{"a below", norm(-most-1, 0, 0), 0, true},
		{"b below", norm(0, -most-1, 0), 0, true},
		{"c below", norm(0, 0, -most-1), 0, true},
		{"least", norm(math.MinInt64, math.MinInt64, math.MinInt64), 0, true},
		{"greatest", norm(0, 0, math.MaxInt64), 0, true},
	})
}

func TestFail(t *testing.T) {
	f := &fixed.Flow{}
	f.Fail()
	if !f.Bad {
		t.Error("still good")
	}
	f.Fail()
	if !f.Bad {
		t.Error("good again")
	}
}

// good: a call of each method that a good flow answers with something else than 0.
func good() []call {
	return []call{
		{"Add", add(1, 2), 3, false},
		{"Sub", sub(1, 2), -1, false},
		{"Mul", mul(one, 2), 2, false},
		{"Div", div(2, one), 2, false},
		{"Sqrt", sqrt(one), one, false},
		{"Part", part(1, 2, 1), 2, false},
		{"Mod", mod(7, 4), 3, false},
		{"Norm", norm(3, 4, 0), 5, false},
	}
}

// spoilt: a call of each method that makes a flow bad.
func spoilt() []call {
	return []call{
		{"Add", add(most, most), 0, true},
		{"Sub", sub(-most, most), 0, true},
		{"Mul", mul(most, most), 0, true},
		{"Div", div(1, 0), 0, true},
		{"Sqrt", sqrt(-1), 0, true},
		{"Part", part(1, 1, 0), 0, true},
		{"Mod", mod(1, 0), 0, true},
		{"Norm", norm(most, most, 0), 0, true},
		{"Fail", func(f *fixed.Flow) int64 { f.Fail(); return 0 }, 0, true},
	}
}

func TestGoodFlowGoesOn(t *testing.T) {
	f := &fixed.Flow{}
	for range 2 {
		for _, c := range good() {
			if got := c.do(f); got != c.want || f.Bad {
				t.Errorf("%s: %d, bad %v; want %d", c.name, got, f.Bad, c.want)
			}
		}
	}
}

func TestBadFlowStaysBad(t *testing.T) {
	for _, s := range spoilt() {
		f := &fixed.Flow{}
		if got := s.do(f); got != 0 || !f.Bad {
			t.Errorf("%s: %d, bad %v", s.name, got, f.Bad)
		}
		for _, c := range append(good(), spoilt()...) {
			if got := c.do(f); got != 0 || !f.Bad {
				t.Errorf("%s behind %s: %d, bad %v", c.name, s.name, got, f.Bad)
			}
		}
	}
}

func TestFlowHandedInBad(t *testing.T) {
	for _, c := range good() {
		f := &fixed.Flow{Bad: true}
		if got := c.do(f); got != 0 || !f.Bad {
			t.Errorf("%s: %d, bad %v", c.name, got, f.Bad)
		}
	}
}

func TestNilFlow(t *testing.T) {
	for _, c := range append(good(), spoilt()...) {
		if got := c.do(nil); got != 0 {
			t.Errorf("%s: %d", c.name, got)
		}
	}
}

// One flow's fault is none of another's.
func TestFlowsStandAlone(t *testing.T) {
	bad, f := &fixed.Flow{}, &fixed.Flow{}
	bad.Fail()
	if got := f.Add(1, 1); got != 2 || f.Bad {
		t.Errorf("%d, bad %v", got, f.Bad)
	}
}
