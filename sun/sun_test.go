package sun_test

import (
	"math"
	"testing"

	"alidade/api"
	"alidade/fixed"
	"alidade/sun"
)

// Written out here, for the tests aren't to share the program's own numbers.
const (
	one   = int64(1) << 40
	most  = int64(1) << 62
	h     = int64(1727108826179)
	full  = int64(6908435304716)
	day   = int64(86400000)
	last  = int64(157766400000)
	earth = int64(7012835795048)
)

// seen: a tick, and where the sun stands then.
type seen struct {
	tick int64
	want api.Vec
}

// sights were worked out by the chapter's steps, outside of the program.
func sights() []seen {
	return append(turns(), []seen{
		{0, api.Vec{215887509060, -989172191073, -428785236983}},
		{1, api.Vec{215887509282, -989172191032, -428785236966}},
		{2, api.Vec{215887509504, -989172190992, -428785236948}},
		{43200000, api.Vec{225468328397, -987371233322, -428004556180}},
		{day - 1, api.Vec{235031383571, -985492144162, -427190007077}},
		{day, api.Vec{235031383791, -985492144117, -427190007057}},
		{day + 1, api.Vec{235031384013, -985492144073, -427190007038}},
		{123456789, api.Vec{243219787062, -983818128497, -426464353532}},
		{1 << 31, api.Vec{656125277375, -809501916295, -350901820342}},
		{1 << 32, api.Vec{969080957108, -476581023529, -206587623530}},
		{6728400000, api.Vec{1099511621788, 105279405, 45636336}},
		{31537234567, api.Vec{211503836996, -989970078574, -429128407447}},
		{52588800000, api.Vec{-1031330000662, 349719080777, 151594240943}},
		{1 << 36, api.Vec{1071529297543, -226144602147, -98027562667}},
		{78883200000, api.Vec{-216498182476, 989062287768, 428730856732}},
		{78883200001, api.Vec{-216498182684, 989062287730, 428730856715}},
		{99999999999, api.Vec{1056076060747, -280747763491, -121695796259}},
		{100000000000, api.Vec{1056076060808, -280747763295, -121695796174}},
		{last - day, api.Vec{192559599061, -993223269662, -430527765682}},
		{last - 1, api.Vec{211785056984, -989923404380, -429097381388}},
		{last, api.Vec{211785057207, -989923404340, -429097381371}},
	}...)
}

// turns: just ahead of where an angle has come to a full turn, or to a quarter of it, and just there.
func turns() []seen {
	return []seen{
		// g
		{172628399, api.Vec{254063280409, -981508423214, -425463140967}},
		{172628400, api.Vec{254063280629, -981508423166, -425463140946}},
		{126406358769, api.Vec{255347378670, -981231769316, -425332517808}},
		{126406358770, api.Vec{255347378890, -981231769268, -425332517787}},
		// q
		{6890744629, api.Vec{1098924728854, 32957027934, 14286155389}},
		{6890744630, api.Vec{1098924728847, 32957028137, 14286155477}},
		{133118445373, api.Vec{1098925035900, 32948539219, 14282116456}},
		{133118445374, api.Vec{1098925035892, 32948539422, 14282116544}},
		// l, at the beginnings of spring, summer, autumn and winter
		{6727880106, api.Vec{1099511627775, -41, -18}},
		{6727880107, api.Vec{1099511627776, 161, 70}},
		{14740702006, api.Vec{36, 1008809979355, 437296518586}},
		{14740702007, api.Vec{-177, 1008809979355, 437296518586}},
		{22833015226, api.Vec{-1099511627777, 63, 27}},
		{22833015227, api.Vec{-1099511627776, -136, -59}},
		{30596791252, api.Vec{-108, -1008810483564, -437295355413}},
		{30596791253, api.Vec{117, -1008810483564, -437295355413}},
	}
}

// wrongTicks: ticks that aren't right, some of which are so in their lower 32 bits.
func wrongTicks() []int64 {
	return []int64{
		-1, -2, -day, -last, last + 1, last + 2, last + day, 2 * last,
		1 << 40, 1 << 61, most, most + 1, -most, -most - 1,
		math.MaxInt64, math.MaxInt64 - 1, math.MinInt64, math.MinInt64 + 1,
	}
}

func TestLimits(t *testing.T) {
	if api.One != one || api.Most != most || api.MaxTick != last {
		t.Error(api.One, api.Most, api.MaxTick)
	}
}

func TestDirection(t *testing.T) {
	f := &fixed.Flow{}
	for _, s := range sights() {
		if got := sun.Direction(f, s.tick); got != s.want || f.Bad {
			t.Errorf("Direction(%d): %v, bad %v; want %v", s.tick, got, f.Bad, s.want)
		}
	}
}

func TestDirectionAtWrongTicks(t *testing.T) {
	for _, tick := range wrongTicks() {
		f := &fixed.Flow{}
		if got := sun.Direction(f, tick); got != (api.Vec{}) || !f.Bad {
			t.Errorf("Direction(%d): %v, bad %v", tick, got, f.Bad)
		}
		// The flow stays bad, whatever comes.
		if got := sun.Direction(f, day); got != (api.Vec{}) || !f.Bad {
			t.Errorf("behind Direction(%d): %v, bad %v", tick, got, f.Bad)
		}
		if sun.Shaded(f, api.Vec{-7 * one}, api.Vec{one}) || !f.Bad {
			t.Errorf("behind Direction(%d): shaded, bad %v", tick, f.Bad)
		}
	}
}

// view: a place and a sun, and what Shaded answers; bad is whether the flow is to be bad behind it.
type view struct {
	name       string
	place, sun api.Vec
	want, bad  bool
}

func views() []view {
	all := append(plainViews(), sideViews()...)
	all = append(append(all, rimViews()...), slantViews()...)
	return append(append(all, badViews()...), strangeViews()...)
}

func plainViews() []view {
	x, y, z := api.Vec{one}, api.Vec{0, one}, api.Vec{0, 0, one}
	return []view{
		{"the example", api.Vec{-7 * one}, x, true, false},
		{"ahead of the Earth", api.Vec{7 * one}, x, false, false},
		{"beside its middle, in the shade", api.Vec{-7 * one, 6 * one}, x, true, false},
		{"beside the shade", api.Vec{-7 * one, 0, 65 * one / 10}, x, false, false},
		{"in the middle", api.Vec{}, x, false, false},
		{"no sun", api.Vec{-7 * one}, api.Vec{}, false, false},
		{"nothing", api.Vec{}, api.Vec{}, false, false},
		{"behind, by y", api.Vec{one, -7 * one, 2 * one}, y, true, false},
		{"behind, by z", api.Vec{one, 2 * one, -7 * one}, z, true, false},
		{"ahead, by y", api.Vec{one, 7 * one, 2 * one}, y, false, false},
		{"ahead, by z", api.Vec{one, 2 * one, 7 * one}, z, false, false},
		{"behind, by -y", api.Vec{one, 7 * one, 2 * one}, api.Vec{0, -one}, true, false},
		{"slanting, in the shade", api.Vec{-3 * one, -8 * one}, api.Vec{one * 3 / 5, one * 4 / 5}, true, false},
		{"slanting, beside it", api.Vec{3 * one, -8 * one}, api.Vec{one * 3 / 5, one * 4 / 5}, false, false},
		{"far behind", api.Vec{-most, one, one}, x, true, false},
		{"far ahead", api.Vec{most, one, one}, x, false, false},
		// A sun that isn't 1 long counts as it is.
		{"twice as long, near", api.Vec{-2 * one}, api.Vec{2 * one}, true, false},
		{"twice as long, far", api.Vec{-7 * one}, api.Vec{2 * one}, false, false},
		{"a sun of one unit, near", api.Vec{-6 * one}, api.Vec{1}, true, false},
		{"a sun of one unit, far", api.Vec{-7 * one}, api.Vec{1}, false, false},
	}
}

// sideViews: Dot is just below 0, 0, and just above it, once its products are rounded.
func sideViews() []view {
	x, half, less := api.Vec{one}, one/2, one/2-1
	return []view{
		{"just behind", api.Vec{-1}, x, true, false},
		{"just behind, beside the middle", api.Vec{-1, 6 * one}, x, true, false},
		{"just behind, at the rim", api.Vec{-1, earth - 1}, x, true, false},
		{"just behind, at the radius", api.Vec{-1, earth}, x, false, false},
		{"upright on it", api.Vec{0, 6 * one}, x, false, false},
		{"upright on it, at the rim", api.Vec{0, earth - 1}, x, false, false},
		{"just ahead", api.Vec{1}, x, false, false},
		{"just ahead, beside the middle", api.Vec{1, 6 * one}, x, false, false},
		{"a half below 0 is -1", api.Vec{-1}, api.Vec{half}, true, false},
		{"less than a half below 0 is 0", api.Vec{-1}, api.Vec{less}, false, false},
		{"each is rounded: thrice less than a half is 0", api.Vec{-1, -1, -1}, api.Vec{less, less, less}, false, false},
		{"each is rounded: 0 and 0 and -1", api.Vec{1, 1, -1}, api.Vec{less, less, half}, true, false},
		{"each is rounded: -1 and 1 and 0", api.Vec{-1, 1, -1}, api.Vec{half, half, less}, false, false},
		{"each is rounded: 0 and -1 and 0", api.Vec{1, -1, 1}, api.Vec{less, half, less}, true, false},
		{"the parts together just below 0", api.Vec{5 * one, -3 * one, -2*one - 1}, api.Vec{one, one, one}, true, false},
		{"the parts together 0", api.Vec{5 * one, -3 * one, -2 * one}, api.Vec{one, one, one}, false, false},
		{"the parts together just above 0", api.Vec{5*one + 1, -3 * one, -2 * one}, api.Vec{one, one, one}, false, false},
	}
}

// rimViews: the Norm is just below the radius, just at it, and just above it.
func rimViews() []view {
	x, z := api.Vec{one}, api.Vec{0, 0, one}
	return []view{
		{"below, by y", api.Vec{-7 * one, earth - 1}, x, true, false},
		{"at, by y", api.Vec{-7 * one, earth}, x, false, false},
		{"above, by y", api.Vec{-7 * one, earth + 1}, x, false, false},
		{"below, by -z", api.Vec{-7 * one, 0, 1 - earth}, x, true, false},
		{"at, by -z", api.Vec{-7 * one, 0, -earth}, x, false, false},
		{"above, by -z", api.Vec{-7 * one, 0, -1 - earth}, x, false, false},
		{"below, by -x", api.Vec{1 - earth, 0, -one}, z, true, false},
		{"at, by -x", api.Vec{-earth, 0, -one}, z, false, false},
		{"far, below", api.Vec{-most, earth - 1}, x, true, false},
		{"far, at", api.Vec{-most, earth}, x, false, false},
		// The Norm is cut: it is below the radius up to where the squares come to the radius's.
		{"cut to below", api.Vec{-7 * one, earth - 1, 3745086}, x, true, false},
		{"cut to the radius", api.Vec{-7 * one, earth - 1, 3745087}, x, false, false},
		{"cut to below, the other way round", api.Vec{-7 * one, -3745086, earth - 1}, x, true, false},
		{"cut to the radius, the other way round", api.Vec{-7 * one, -3745087, earth - 1}, x, false, false},
		// The lit side knows no rim.
		{"lit, below", api.Vec{7 * one, earth - 1}, x, false, false},
		{"lit, at", api.Vec{7 * one, earth}, x, false, false},
	}
}

// slantViews: the same of suns of some ticks, worked out by the chapter's steps, outside of the program.
func slantViews() []view {
	first := api.Vec{215887509060, -989172191073, -428785236983}
	spring := api.Vec{971715974832, -472042773831, -204620388873}
	third := api.Vec{1056076060808, -280747763295, -121695796174}
	return []view{
		{"first, below", api.Vec{5340340254650, 8419561438742, 3001496658881}, first, true, false},
		{"first, at", api.Vec{5340340254651, 8419561438742, 3001496658881}, first, false, false},
		{"first, above", api.Vec{5340340254652, 8419561438742, 3001496658881}, first, false, false},
		{"first, far, below", api.Vec{-2215722564873, 43040588137403, 18008979958100}, first, true, false},
		{"first, far, at", api.Vec{-2215722564872, 43040588137403, 18008979958100}, first, false, false},
		{"first, just behind, below", api.Vec{6851552818070, 1495356101234, 1}, first, true, false},
		{"first, just behind, at", api.Vec{6851552818071, 1495356101234, 1}, first, false, false},
		{"spring, below", api.Vec{-3737727093232, 9612232911881, 1432342722111}, spring, true, false},
		{"spring, above", api.Vec{-3737727093231, 9612232911883, 1432342722111}, spring, false, false},
		{"spring, just behind, below", api.Vec{3064284730589, 6307933495066, 1}, spring, true, false},
		{"spring, just behind, at", api.Vec{3064284730590, 6307933495067, 1}, spring, false, false},
		{"third, far, below", api.Vec{-42553476949750, 18568845070515, 5111223440674}, third, true, false},
		{"third, far, at", api.Vec{-42553476949749, 18568845070516, 5111223440674}, third, false, false},
	}
}

// badViews: each step in turn leaves the numbers, behind the Earth and on the sun's side, and just doesn't.
func badViews() []view {
	two, root := 2*one, int64(1)<<51
	return []view{
		{"a product, lit", api.Vec{most}, api.Vec{two}, false, true},
		{"a product, behind", api.Vec{-most}, api.Vec{two}, false, true},
		{"a product, y", api.Vec{-one, most}, api.Vec{one, one + 1}, false, true},
		{"a product, z", api.Vec{-one, 0, most}, api.Vec{one, 0, -one - 1}, false, true},
		{"a sum, lit", api.Vec{most, 1}, api.Vec{one, one}, false, true},
		{"a sum, behind", api.Vec{-most, -1}, api.Vec{one, one}, false, true},
		{"a sum of three, lit", api.Vec{most - 1, 1, 1}, api.Vec{one, one, one}, false, true},
		{"a sum of three, behind", api.Vec{1 - most, -1, -1}, api.Vec{one, one, one}, false, true},
		// The third part would lead back to the numbers, but the first two are added ahead of it.
		{"a sum that would come back", api.Vec{-most, -1, 2}, api.Vec{one, one, one}, false, true},
		{"what is scaled, lit", api.Vec{root}, api.Vec{root}, false, true},
		{"what is scaled, behind", api.Vec{-root}, api.Vec{root}, false, true},
		{"what is scaled, z", api.Vec{0, 0, -root}, api.Vec{0, 0, root}, false, true},
		{"a difference, lit", api.Vec{most, most}, api.Vec{-one / 4, one}, false, true},
		{"a difference, behind", api.Vec{most, most}, api.Vec{one / 4, -one}, false, true},
		{"the Norm, lit", api.Vec{most, most, one}, api.Vec{0, 0, one}, false, true},
		{"the Norm, upright", api.Vec{most, most}, api.Vec{0, 0, one}, false, true},
		{"the Norm, behind", api.Vec{most, most, -one}, api.Vec{0, 0, one}, false, true},
		{"the Norm, without a sun", api.Vec{most, -most, most}, api.Vec{}, false, true},
		{"the Norm just no number", api.Vec{most, 3037000500, one}, api.Vec{0, 0, one}, false, true},
		{"the Norm just cut to a number", api.Vec{most, 3037000499, one}, api.Vec{0, 0, one}, false, false},
		{"the Norm just no number, behind", api.Vec{most, 3037000500, -one}, api.Vec{0, 0, one}, false, true},
		{"the Norm just cut to a number, behind", api.Vec{most, 3037000499, -one}, api.Vec{0, 0, one}, false, false},
		{"the greatest product", api.Vec{-most}, api.Vec{one}, true, false},
		{"the greatest sum", api.Vec{1 - most, -1}, api.Vec{one, one}, false, false},
		{"the greatest length", api.Vec{0, most}, api.Vec{one}, false, false},
		{"the greatest length, behind", api.Vec{-1, most}, api.Vec{one}, false, false},
		{"the greatest sun, near", api.Vec{-1}, api.Vec{one << 11}, true, false},
		{"the greatest sun", api.Vec{}, api.Vec{most, -most, most}, false, false},
	}
}

// strangeViews: one part is no number. It is used in Dot, though what it is taken times with is 0.
func strangeViews() []view {
	var all []view
	for _, a := range []int64{most + 1, -most - 1, math.MaxInt64, math.MinInt64, math.MinInt64 + 1} {
		for i := range 3 {
			none, behind, x := api.Vec{}, api.Vec{-7 * one}, api.Vec{one}
			none[i], behind[i], x[i] = a, a, a
			all = append(all,
				view{"a part of a place beside nothing", none, api.Vec{}, false, true},
				view{"a part of a sun beside nothing", api.Vec{}, none, false, true},
				view{"a part of a place", behind, api.Vec{one}, false, true},
				view{"a part of a sun", api.Vec{-7 * one}, x, false, true},
				view{"a part of both", behind, x, false, true})
		}
	}
	return all
}

func TestShaded(t *testing.T) {
	for _, v := range views() {
		f := &fixed.Flow{}
		if got := sun.Shaded(f, v.place, v.sun); got != v.want || f.Bad != v.bad {
			t.Errorf("%s: Shaded(%v, %v): %v, bad %v; want %v, bad %v", v.name, v.place, v.sun, got, f.Bad, v.want, v.bad)
		}
		if !v.bad {
			continue
		}
		// The flow stays bad, whatever comes.
		if sun.Shaded(f, api.Vec{-7 * one}, api.Vec{one}) || !f.Bad {
			t.Errorf("%s: behind it shaded, bad %v", v.name, f.Bad)
		}
		if got := sun.Direction(f, day); got != (api.Vec{}) || !f.Bad {
			t.Errorf("%s: behind it %v, bad %v", v.name, got, f.Bad)
		}
	}
}

func TestBadAheadAndNil(t *testing.T) {
	ticks := wrongTicks()
	for _, s := range sights() {
		ticks = append(ticks, s.tick)
	}
	for _, tick := range ticks {
		f := &fixed.Flow{Bad: true}
		if got := sun.Direction(f, tick); got != (api.Vec{}) || !f.Bad {
			t.Errorf("Direction(%d) in a bad flow: %v, bad %v", tick, got, f.Bad)
		}
		if got := sun.Direction(nil, tick); got != (api.Vec{}) {
			t.Errorf("Direction(%d) in no flow: %v", tick, got)
		}
	}
	for _, v := range views() {
		f := &fixed.Flow{Bad: true}
		if sun.Shaded(f, v.place, v.sun) || !f.Bad {
			t.Errorf("%s in a bad flow: shaded, bad %v", v.name, f.Bad)
		}
		if sun.Shaded(nil, v.place, v.sun) {
			t.Errorf("%s in no flow: shaded", v.name)
		}
	}
}

// One flow that is good goes through all calls that are, and each answers as it does alone.
func TestOneFlowForAll(t *testing.T) {
	f := &fixed.Flow{}
	for _, s := range sights() {
		for _, v := range views() {
			if v.bad {
				continue
			}
			if got := sun.Direction(f, s.tick); got != s.want || f.Bad {
				t.Fatalf("Direction(%d): %v, bad %v", s.tick, got, f.Bad)
			}
			if got := sun.Shaded(f, v.place, v.sun); got != v.want || f.Bad {
				t.Fatalf("%s: %v, bad %v", v.name, got, f.Bad)
			}
		}
	}
}
