package clock_test

import (
	"math"
	"testing"

	"alidade/api"
	"alidade/clock"
	"alidade/fixed"
)

// Written out here, for the tests aren't to share the program's own numbers.
const (
	one  = int64(1) << 40
	day  = int64(86400000)
	last = int64(157766400000)
	full = int64(6908435304716)
)

// op: a call of the package that is done in a flow, and what it answers by the chapter's steps, in integers of any size.
type op struct {
	name  string
	do    func(f *fixed.Flow, tick int64) int64
	exact func(tick int64) int64
}

func ops() []op {
	return []op{
		{"Days", clock.Days, daysExact},
		{"Turn", clock.Turn, turnExact},
	}
}

// wrong: ticks that aren't right, some of which are so in their lower 32 bits, or would be no numbers either.
func wrong() []int64 {
	return []int64{
		-1, -2, -day, -last, -last - 1, last + 1, last + 2, last + day, 2 * last,
		1 << 40, 1 << 61, 1 << 62, 1<<62 + 1, -1 << 62, -1<<62 - 1,
		math.MaxInt64, math.MaxInt64 - 1, math.MinInt64, math.MinInt64 + 1,
	}
}

// sample: a tick, and what Days and Turn answer.
type sample struct {
	tick, days, turn int64
}

// samples were worked out by the chapter's steps, outside of the program.
func samples() []sample {
	return []sample{
		{0, 0, 5399947124839},
		{1, 12726, 5399947205017},
		{2, 25452, 5399947285194},
		{3, 38177, 5399947365372},
		{4, 50903, 5399947445550},
		{5, 63629, 5399947525728},
		{43199999, 549755801162, 1955186727113},
		{43200000, one / 2, 1955186807291},
		{day - 1, 1099511615050, 5418861714281},
		{day, one, 5399947124839 + 18914669620},
		{day + 1, 1099511640502, 5418861874637},
		{2*day - 1, 2199023242826, 5437776383901},
		{2 * day, 2 * one, 5437776464079},
		{2*day + 1, 2199023268278, 5437776544257},
		{123456789, 1571089988812, 1481553183356},
		{1 << 31, 27328509738829, 4869282028464},
		{1 << 32, 54657019477658, 4338616932090},
		{1<<32 + 1, 54657019490384, 4338617012267},
		{365*day + 1234567, 401337455026802, 5494350926744},
		{52588800000, 669236077439659, 792993655875},
		{1 << 36, 874512311642527, 2235534650278},
		{78883200000, 913 * one, 1943734573751},
		{78883200001, 1003854116172214, 1943734653929},
		{1000*day - 1, 1099511627763274, 3589310750513},
		{1000 * day, 1000 * one, 3589310830691},
		{99999999999, 1272582902505793, 2472732269385},
		{100000000000, 1272582902518519, 2472732349563},
		{last - day - 1, 2006608720678474, 5377042577581},
		{last - day, 1825 * one, 5377042657759},
		{last - day + 1, 2006608720703926, 5377042737937},
		{last - 1, 2007708232306250, 5395957247201},
		{last, 1826 * one, 5395957327379},
	}
}

// halves: where what has been turned since noon, and what is beyond whole turns, both end in a half: each of them is rounded up by itself.
func halves() []sample {
	return []sample{
		{day / 8, one / 8, 6265865871632},
		{day * 3 / 8, one * 3 / 8, 1089268060500},
		{day * 5 / 8, one * 5 / 8, 2821105554084},
		{day * 7 / 8, one * 7 / 8, 4552943047668},
	}
}

func TestLimits(t *testing.T) {
	if api.One != one || api.MaxTick != last || last != 1826*day {
		t.Error(api.One, api.MaxTick)
	}
}

func TestRight(t *testing.T) {
	for _, tick := range []int64{0, 1, day - 1, day, 1 << 31, 1 << 32, 78883200000, last - 1, last} {
		if !clock.Right(tick) {
			t.Errorf("%d isn't right", tick)
		}
	}
	for _, tick := range wrong() {
		if clock.Right(tick) {
			t.Errorf("%d is right", tick)
		}
	}
}

func TestSamples(t *testing.T) {
	f := &fixed.Flow{}
	for _, s := range append(samples(), halves()...) {
		if n := clock.Days(f, s.tick); n != s.days || f.Bad {
			t.Errorf("Days(%d): %d, bad %v; want %d", s.tick, n, f.Bad, s.days)
		}
		if n := clock.Turn(f, s.tick); n != s.turn || f.Bad {
			t.Errorf("Turn(%d): %d, bad %v; want %d", s.tick, n, f.Bad, s.turn)
		}
	}
}

// A full turn ends between two ticks: ahead of it nearly all of it is answered, behind it nearly nothing.
func TestTurnWhereATurnEnds(t *testing.T) {
	for _, s := range []struct{ tick, ahead, behind int64 }{
		{18814319, 6908435229489, 4951},
		{104978410, 6908435267106, 42568},
		{6998105652, 6908435229681, 5142},
		{31641035544, 6908435244216, 19678},
		{86441397122, 6908435275417, 50878},
		{157699099991, 6908435275394, 50855},
	} {
		f := &fixed.Flow{}
		ahead, behind := clock.Turn(f, s.tick), clock.Turn(f, s.tick+1)
		if ahead != s.ahead || behind != s.behind || f.Bad {
			t.Errorf("Turn(%d): %d, then %d, bad %v; want %d, then %d", s.tick, ahead, behind, f.Bad, s.ahead, s.behind)
		}
	}
}

func TestWrongTicks(t *testing.T) {
	for _, o := range ops() {
		for _, tick := range wrong() {
			f := &fixed.Flow{}
			if n := o.do(f, tick); n != 0 || !f.Bad {
				t.Errorf("%s(%d): %d, bad %v", o.name, tick, n, f.Bad)
			}
			// The flow stays bad, whatever comes.
			if n := o.do(f, day); n != 0 || !f.Bad {
				t.Errorf("%s(%d) behind %d: %d, bad %v", o.name, day, tick, n, f.Bad)
			}
		}
	}
}

func TestBadAheadAndNil(t *testing.T) {
	for _, o := range ops() {
		for _, tick := range append(wrong(), 0, 1, day-1, day, 18814320, 78883200000, last-1, last) {
			f := &fixed.Flow{Bad: true}
			if n := o.do(f, tick); n != 0 || !f.Bad {
				t.Errorf("%s(%d) in a bad flow: %d, bad %v", o.name, tick, n, f.Bad)
			}
			if n := o.do(nil, tick); n != 0 {
				t.Errorf("%s(%d) in no flow: %d", o.name, tick, n)
			}
		}
	}
}
