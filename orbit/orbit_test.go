package orbit_test

import (
	"math"
	"testing"

	"alidade/api"
	"alidade/fixed"
	"alidade/orbit"
)

// Written out here, for the tests aren't to share the program's own numbers.
const (
	one     = int64(1) << 40
	most    = int64(1) << 62
	h       = int64(1727108826179)
	full    = int64(6908435304716)
	day     = int64(86400000)
	last    = int64(157766400000)
	mostE   = int64(109951162777)
	lowest  = int64(7232738120604)
	highest = int64(9211859050600)
)

func elements(a, e, i, node, peri, m, at int64) api.Orbit {
	return api.Orbit{A: a, E: e, I: i, Node: node, Peri: peri, M: m, At: at}
}

// changed answers o with another integer in one of its fields, counted from 0.
func changed(o api.Orbit, field int, to int64) api.Orbit {
	*[]*int64{&o.A, &o.E, &o.I, &o.Node, &o.Peri, &o.M, &o.At}[field] = to
	return o
}

// sample: elements and a tick, and where the body is then.
type sample struct {
	name string
	o    api.Orbit
	tick int64
	want api.Vec
}

// samples were worked out by the chapter's steps, outside of the program.
func samples() []sample {
	return append(append(plainSamples(), lastBits()...), []sample{
		{"the least A of the greatest E", elements(8036375689555, mostE, 863554413089, one, 2*one, 3*one, 1000), 123456789,
			api.Vec{2724633262282, -5690443313155, -5702345905376}},
		{"the greatest A of the greatest E", elements(8374417318731, mostE, 2302811768238, -one, -2*one, -3*one, last-1000), 987654321,
			api.Vec{-6430594441338, -4469138284673, 2078155659859}},
		{"all angles greatest", elements(7*one, 21990232555, 2*h, full, full, full, day), 2 * day,
			api.Vec{4789937815817, 5917663894492, 0}},
		{"all angles least", elements(7*one, 21990232555, 0, -full, -full, -full, day), 2 * day,
			api.Vec{4789937815822, -5917663894487, 0}},
		{"nearly over the poles", elements(7781544320211, 1099511628, 1877000000000, 1234567890123, -987654321098, 2345678901234, 31536000000), 47304000123,
			api.Vec{-4234257968589, -5385794085436, 3683532828499}},
		{"a millisecond ahead of At", elements(7478000000000, 10995116278, 1210000000000, -3000000000000, 5000000000000, -6000000000000, 100000000000), 99999999999,
			api.Vec{-5311128555763, 538547917637, -5164600186734}},
		{"against the Earth's turn", elements(8000000000000, 50000000000, 3000000000000, 6000000000000, -6500000000000, 777777777777, 0), last,
			api.Vec{4061785680539, -6064339237224, 2712271737186}},
		{"five years back", elements(8123456789012, 33333333333, 400000000000, -4000000000000, 6600000000000, -1, last), 0,
			api.Vec{-7436490087411, 1435655746581, -2874417910487}},
		{"where the peri stands still", elements(7700000000000, 22222222222, 1217322888891, 1, -1, 1, 1), day + 1,
			api.Vec{2349066475036, -3363025428839, -6451957880678}},
	}...)
}

// lastBits: where it tells, after years, if one of the Earth's numbers is one unit greater or less.
func lastBits() []sample {
	return []sample{
		{"the pull, greater", elements(8143877772222, 41392784062, 2806003865588, 5678097781480, 1970196043306, 4064063665313, 4968296454), 153386246345,
			api.Vec{-3713457306533, 6858813254176, -780482281016}},
		{"the pull, less", elements(8137512441597, 2836392507, 1157806971881, 2540806312350, 3302498268572, -454141984273, 6400237408), 144786195381,
			api.Vec{1525178355266, -7072156028178, 3679841437189}},
		{"the radius, greater", elements(8338122978603, 94596243328, 1435075224594, -6907780908723, -679730338098, -1119625315184, 3378304451), 146685422731,
			api.Vec{-2377346134341, -334210546511, 8312184508557}},
		{"the radius, less", elements(8237080836026, 31323787202, 80124912825, 5413950658496, -6314182881915, 2269843583356, 2990259761), 151503894668,
			api.Vec{6293731718182, 5586426401299, 380573761648}},
	}
}

// plainSamples: round, or lying flat, or both.
func plainSamples() []sample {
	return []sample{
		{"the example", elements(7*one, 0, 0, 0, 0, 0, 0), 0, api.Vec{7 * one, 0, 0}},
		{"the example, at another tick", elements(7*one, 0, 0, 0, 0, 0, 5*day), 5 * day, api.Vec{7 * one, 0, 0}},
		{"the example, at the last tick", elements(7*one, 0, 0, 0, 0, 0, last), last, api.Vec{7 * one, 0, 0}},
		{"the lowest round one", elements(lowest, 0, 0, 0, 0, 0, 0), day, api.Vec{-3160109059456, 6505859778197, 0}},
		{"the highest round one", elements(highest, 0, 0, 0, 0, 0, 0), day, api.Vec{-5044245916127, 7708043221573, 0}},
		{"upright, a quarter on", elements(7*one, 0, h, 0, 0, h, 0), 0, api.Vec{0, 0, 7 * one}},
		{"node alone", elements(7*one, 0, 0, h, 0, 0, 0), 0, api.Vec{0, 7 * one, 0}},
		{"peri alone", elements(7*one, 0, 0, 0, h, 0, 0), 0, api.Vec{0, 7 * one, 0}},
		{"M alone", elements(7*one, 0, 0, 0, 0, h, 0), 0, api.Vec{0, 7 * one, 0}},
		{"upright, node a quarter", elements(7*one, 0, h, h, h, 0, 0), 0, api.Vec{0, 0, 7 * one}},
		{"a millisecond", elements(7*one, 0, 0, 0, 0, 0, 0), 1, api.Vec{7696581394425, 8319458, 0}},
		{"a day", elements(7*one, 0, 0, 0, 0, 0, 0), day, api.Vec{5040320726783, -5816573917027, 0}},
		{"a day ahead of At", elements(7*one, 0, 0, 0, 0, 0, day), 0, api.Vec{5040320726783, 5816573917027, 0}},
		{"five years", elements(7*one, 0, 0, 0, 0, 0, 0), last, api.Vec{7689995682497, 318326191453, 0}},
		{"five years ahead of At", elements(7*one, 0, 0, 0, 0, 0, last), 0, api.Vec{7689995682505, -318326191447, 0}},
		{"nearest", elements(8246337208320, mostE, 0, 0, 0, 0, 0), 0, api.Vec{7421703487493, 0, 0}},
		{"farthest", elements(8246337208320, mostE, 0, 0, 0, 2*h, 0), 0, api.Vec{-9070970929148, 0, 0}},
		{"between", elements(8246337208320, mostE, 0, 0, 0, h, 0), 0, api.Vec{-1643834906160, 8164415282398, 0}},
	}
}

// edge: elements at an edge of the words.
type edge struct {
	name  string
	o     api.Orbit
	right bool
}

// farEdges: A and E. The products are rounded: an A may be right whose product is somewhat below the nearest, or above the farthest.
func farEdges() []edge {
	far := func(a, e int64) api.Orbit { return api.Orbit{A: a, E: e} }
	return []edge{
		{"nothing", far(0, 0), false},
		{"E 0", far(7*one, 0), true},
		{"E below 0", far(7*one, -1), false},
		{"E greatest", far(15*one/2, mostE), true},
		{"E past it", far(15*one/2, mostE+1), false},
		{"E least int64", far(7*one, math.MinInt64), false},
		{"E greatest int64", far(7*one, math.MaxInt64), false},
		{"E 1", far(7*one, one), false},
		{"round, just not too near", far(lowest, 0), true},
		{"round, just too near", far(lowest-1, 0), false},
		{"round, just not too far", far(highest, 0), true},
		{"round, just too far", far(highest+1, 0), false},
		{"E 1, just not too near", far(7232738120611, 1), true},
		{"E 1, just too near", far(7232738120610, 1), false},
		{"E 1, rounded to not too far", far(9211859050592, 1), true},
		{"E 1, just too far", far(9211859050593, 1), false},
		{"E 2, rounded to not too near", far(7232738120617, 2), true},
		{"E 2, just too near", far(7232738120616, 2), false},
		{"E 2, just not too far", far(9211859050583, 2), true},
		{"E 2, just too far", far(9211859050584, 2), false},
		{"E greatest, rounded to not too near", far(8036375689555, mostE), true},
		{"E greatest, just too near", far(8036375689554, mostE), false},
		{"E greatest, just not too far", far(8374417318731, mostE), true},
		{"E greatest, just too far", far(8374417318732, mostE), false},
		{"E between, rounded to not too near", far(7870356884305, 89077186090), true},
		{"E between, just too near", far(7870356884304, 89077186090), false},
		{"E between, rounded to not too far", far(8521488694332, 89077186090), true},
		{"E between, just too far", far(8521488694333, 89077186090), false},
		{"not too far, but too near", far(lowest, 1), false},
		{"not too near, but too far", far(highest, 1), false},
		{"A one below 0", far(-1, 0), false},
		{"A below 0", far(-7*one, 0), false},
		{"A below 0, far", far(-7*one, mostE), false},
		{"A most", far(most, 0), false},
		{"A most, a product is no number", far(most, 1), false},
		{"A most, far", far(most, mostE), false},
		{"A's far product still a number", far(4192441834936068824, mostE), false},
		{"A's far product just no number", far(4192441834936068825, mostE), false},
		{"A -most", far(-most, mostE), false},
		{"A past most", far(most+1, 0), false},
		{"A past -most", far(-most-1, 0), false},
		{"A greatest int64", far(math.MaxInt64, 0), false},
		{"A least int64", far(math.MinInt64, 0), false},
		{"A least int64, far", far(math.MinInt64, mostE), false},
	}
}

// fieldEdges: each other field of elements that are right otherwise.
func fieldEdges() []edge {
	good := elements(15*one/2, one/20, one, 2*one, 3*one, 4*one, day)
	var all []edge
	ends := func(name string, field int, least, greatest int64) {
		for _, to := range []int64{least, least + 1, 0, greatest - 1, greatest} {
			all = append(all, edge{name, changed(good, field, to), true})
		}
		for _, to := range []int64{least - 1, greatest + 1, 2 * greatest, most, most + 1, -most, -most - 1, math.MaxInt64, math.MinInt64} {
			all = append(all, edge{name, changed(good, field, to), false})
		}
	}
	ends("I", 2, 0, 3454217652358)
	ends("Node", 3, -6908435304716, 6908435304716)
	ends("Peri", 4, -6908435304716, 6908435304716)
	ends("M", 5, -6908435304716, 6908435304716)
	ends("At", 6, 0, 157766400000)
	return append(all, edge{"all in the middle", good, true})
}

func edges() []edge { return append(farEdges(), fieldEdges()...) }

// wrongTicks: ticks that aren't right.
func wrongTicks() []int64 {
	return []int64{-1, -day, last + 1, 2 * last, most, most + 1, -most, -most - 1, math.MaxInt64, math.MinInt64}
}

func TestRight(t *testing.T) {
	for _, e := range edges() {
		if got := orbit.Right(e.o); got != e.right {
			t.Errorf("%s: Right(%+v) is %v", e.name, e.o, got)
		}
	}
	for _, s := range samples() {
		if !orbit.Right(s.o) {
			t.Errorf("%s isn't right", s.name)
		}
	}
}

// solved: m and e, and what Kepler answers; bad is whether the flow is to be bad behind it.
type solved struct {
	m, e, want int64
	bad        bool
}

// solutions were worked out by the chapter's steps, outside of the program.
func solutions() []solved {
	return []solved{
		{0, 0, 0, false}, {0, mostE, 0, false}, {1, mostE, 1, false}, {-1, mostE, -1, false},
		{h, 0, h, false}, {h, 1, h + 1, false}, {h, mostE, 1836516107489, false},
		{2*h - 1, mostE, 2*h - 1, false}, {2 * h, mostE, 2 * h, false}, {2*h + 1, mostE, 2*h + 1, false},
		{3 * h, mostE, 5071919197227, false},
		{full - 1, mostE, full - 1, false}, {full, mostE, full, false}, {full + 1, mostE, full + 1, false},
		{-h, mostE, -1836516107489, false}, {-full, mostE, -full, false},
		{one, one / 20, 1147011641859, false}, {one, mostE, 1196925886732, false},
		{2 * one, one / 100, 2208979245652, false}, {3 * one, mostE - 1, 3312652334635, false},
		{4 * one, mostE, 4320132565073, false}, {5 * one, 12345678901, 5485682434220, false},
		{6 * one, mostE, 6563101339161, false},
		{100 * one, one / 11, 109896313676739, false}, {-100 * one, one / 11, -109896313676739, false},
		{most, 0, most, false}, {-most, 0, -most, false}, {most - 1, 0, most - 1, false},
		{most - one/8, mostE, 4611685987476667203, false}, {one/8 - most, mostE, -4611685987476667203, false},
		{most, 1, 0, true}, {most, mostE, 0, true}, {-most, mostE, 0, true},
		{most + 1, 0, 0, true}, {-most - 1, 0, 0, true}, {most + 1, mostE, 0, true},
		{math.MaxInt64, 0, 0, true}, {math.MinInt64, 0, 0, true}, {math.MinInt64, mostE, 0, true},
		{one, -1, 0, true}, {one, mostE + 1, 0, true}, {one, one, 0, true}, {one, -one, 0, true},
		{0, -1, 0, true}, {0, mostE + 1, 0, true}, {one, most, 0, true}, {one, -most - 1, 0, true},
		{one, math.MaxInt64, 0, true}, {one, math.MinInt64, 0, true}, {math.MinInt64, math.MinInt64, 0, true},
	}
}

func TestKepler(t *testing.T) {
	for _, s := range solutions() {
		f := &fixed.Flow{}
		if got := orbit.Kepler(f, s.m, s.e); got != s.want || f.Bad != s.bad {
			t.Errorf("Kepler(%d, %d): %d, bad %v; want %d, bad %v", s.m, s.e, got, f.Bad, s.want, s.bad)
		}
	}
}

func TestPlace(t *testing.T) {
	f := &fixed.Flow{}
	for _, s := range samples() {
		if got := orbit.Place(f, s.o, s.tick); got != s.want || f.Bad {
			t.Errorf("%s: %v, bad %v; want %v", s.name, got, f.Bad, s.want)
		}
	}
}

// unplaced asks for nothing, and for a flow that is bad from then on.
func unplaced(t *testing.T, name string, o api.Orbit, tick int64) {
	t.Helper()
	f := &fixed.Flow{}
	if got := orbit.Place(f, o, tick); got != (api.Vec{}) || !f.Bad {
		t.Errorf("%s: Place(%+v, %d) is %v, bad %v", name, o, tick, got, f.Bad)
	}
	good := samples()[0]
	if got := orbit.Place(f, good.o, good.tick); got != (api.Vec{}) || !f.Bad {
		t.Errorf("%s: behind it %v, bad %v", name, got, f.Bad)
	}
}

func TestPlaceOfElementsAtEdges(t *testing.T) {
	for _, e := range edges() {
		for _, tick := range []int64{0, day, last} {
			if !e.right {
				unplaced(t, e.name, e.o, tick)
				continue
			}
			f := &fixed.Flow{}
			if got := orbit.Place(f, e.o, tick); got == (api.Vec{}) || f.Bad {
				t.Errorf("%s: Place(%+v, %d) is %v, bad %v", e.name, e.o, tick, got, f.Bad)
			}
		}
		for _, tick := range wrongTicks() {
			unplaced(t, e.name, e.o, tick)
		}
	}
}

func TestBadAheadAndNil(t *testing.T) {
	for _, s := range solutions() {
		f := &fixed.Flow{Bad: true}
		if got := orbit.Kepler(f, s.m, s.e); got != 0 || !f.Bad {
			t.Errorf("Kepler(%d, %d) in a bad flow: %d, bad %v", s.m, s.e, got, f.Bad)
		}
		if got := orbit.Kepler(nil, s.m, s.e); got != 0 {
			t.Errorf("Kepler(%d, %d) in no flow: %d", s.m, s.e, got)
		}
	}
	for _, s := range samples() {
		for _, tick := range append(wrongTicks(), s.tick) {
			f := &fixed.Flow{Bad: true}
			if got := orbit.Place(f, s.o, tick); got != (api.Vec{}) || !f.Bad {
				t.Errorf("%s in a bad flow: %v, bad %v", s.name, got, f.Bad)
			}
			if got := orbit.Place(nil, s.o, tick); got != (api.Vec{}) {
				t.Errorf("%s in no flow: %v", s.name, got)
			}
		}
	}
	if got := orbit.Place(nil, api.Orbit{}, 0); got != (api.Vec{}) {
		t.Errorf("wrong elements in no flow: %v", got)
	}
}
