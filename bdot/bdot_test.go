package bdot_test

import (
	"math"
	"testing"

	"alidade/api"
	"alidade/bdot"
	"alidade/fixed"
)

// Written out here, for the tests aren't to share the program's own numbers.
const (
	one      = int64(1) << 40
	most     = int64(1) << 62
	fifth    = int64(219902325555)
	least    = int64(math.MinInt64)
	greatest = int64(math.MaxInt64)
)

// noNumbers: those next to the numbers, and the farthest ones.
func noNumbers() []int64 { return []int64{most + 1, -most - 1, greatest, least} }

// steps holds Step against what it is to answer: in a good flow, in one that was bad ahead of it, and in none. bad is whether the good one is to be bad behind it.
func steps(t *testing.T, name string, d api.Drift, b api.Vec, tick int64, want api.Drift, bad bool) {
	t.Helper()
	f := &fixed.Flow{}
	if got := bdot.Step(f, d, b, tick); got != want || f.Bad != bad {
		t.Errorf("%s: Step(%v, %v, %d): %v, bad %v; want %v, bad %v", name, d, b, tick, got, f.Bad, want, bad)
	}
	f = &fixed.Flow{Bad: true}
	if got := bdot.Step(f, d, b, tick); got != (api.Drift{}) || !f.Bad {
		t.Errorf("%s: Step(%v, %v, %d) in a bad flow: %v, bad %v", name, d, b, tick, got, f.Bad)
	}
	if got := bdot.Step(nil, d, b, tick); got != (api.Drift{}) {
		t.Errorf("%s: Step(%v, %v, %d) in no flow: %v", name, d, b, tick, got)
	}
}

// begins: Step is to keep the field and its tick, with no Rate.
func begins(t *testing.T, name string, d api.Drift, b api.Vec, tick int64) {
	t.Helper()
	steps(t, name, d, b, tick, api.Drift{On: true, Tick: tick, Last: b}, false)
}

// fails: Step is to make the flow bad.
func fails(t *testing.T, name string, d api.Drift, b api.Vec, tick int64) {
	t.Helper()
	steps(t, name, d, b, tick, api.Drift{}, true)
}

// dips holds Dipole against what it is to answer, in the same three flows.
func dips(t *testing.T, d api.Drift, want api.Vec, bad bool) {
	t.Helper()
	f := &fixed.Flow{}
	if got := bdot.Dipole(f, d); got != want || f.Bad != bad {
		t.Errorf("Dipole(%v): %v, bad %v; want %v, bad %v", d, got, f.Bad, want, bad)
	}
	f = &fixed.Flow{Bad: true}
	if got := bdot.Dipole(f, d); got != (api.Vec{}) || !f.Bad {
		t.Errorf("Dipole(%v) in a bad flow: %v, bad %v", d, got, f.Bad)
	}
	if got := bdot.Dipole(nil, d); got != (api.Vec{}) {
		t.Errorf("Dipole(%v) in no flow: %v", d, got)
	}
}

// at answers a vector with a at one place, and others beside it.
func at(place int, a int64, others api.Vec) api.Vec {
	others[place] = a
	return others
}

func TestTheChaptersExample(t *testing.T) {
	d := api.Drift{On: true, Tick: 7000, Last: api.Vec{one, 0, -5 * one}}
	steps(t, "grows by 1 in a second", d, api.Vec{2 * one, one, -4 * one}, 8000, api.Drift{
		On: true, Tick: 8000, Last: api.Vec{2 * one, one, -4 * one}, Rate: api.Vec{366503875925, 366503875925, 366503875925},
	}, false)
}

func TestStepOfOneThatIsNotOn(t *testing.T) {
	b := api.Vec{25 * one, -one, 3}
	for _, d := range []api.Drift{
		{},
		{Tick: 1000},
		{Tick: 1000, Last: b, Rate: api.Vec{one, one, one}},
		{Tick: 2000, Last: api.Vec{1, 2, 3}, Rate: api.Vec{4, 5, 6}},
		{Tick: least, Last: api.Vec{most, -most, most}, Rate: api.Vec{-most, most, -most}},
		{Tick: 1000, Last: api.Vec{most + 1, greatest, least}},
		{Tick: 1000, Rate: api.Vec{-most - 1, greatest, least}},
	} {
		for _, tick := range []int64{0, 1, 1999, 2000, 2001, 11000, -1, 157766400001, least, greatest} {
			begins(t, "not On", d, b, tick)
			begins(t, "not On, no field", d, api.Vec{}, tick)
			begins(t, "not On, the ends", d, api.Vec{most, -most, most}, tick)
		}
	}
}

// seen: how long a field was seen behind the last one, and the Rate that this makes of 12 One, then 13 One, and a Rate of a third; they were worked out outside of the program.
func seen() map[int64]int64 {
	return map[int64]int64{10: 911701183894, 11: 911247826766, 1000: 610839793209, 9999: 152722675191, 10000: 152709948302}
}

// third: a Drift with a last field and a Rate in each part.
func third(tick int64) api.Drift {
	return api.Drift{On: true, Tick: tick, Last: api.Vec{12 * one, 12 * one, 12 * one}, Rate: api.Vec{366503875925, 366503875925, 366503875925}}
}

func TestStepOfTicks(t *testing.T) {
	b := api.Vec{13 * one, 13 * one, 13 * one}
	for _, from := range []int64{
		0, 1, 50, 1 << 31, 1 << 32, 157766400000, -1, -5, -10, -5000, -10000, -10001, most, -most,
		least, least + 1, greatest - 10000, greatest - 10001, greatest - 20000,
	} {
		for after, rate := range seen() {
			want := api.Drift{On: true, Tick: from + after, Last: b, Rate: api.Vec{rate, rate, rate}}
			steps(t, "in time", third(from), b, from+after, want, false)
		}
		// What wraps round past an end of the integers isn't in time either.
		for _, after := range []int64{0, 1, 8, 9, 10001, 10002, 1 << 31, 1 << 32, 1<<32 + 1000, -1, -9, -10, -11, -1000, -9999, -10000, -10001} {
			begins(t, "not in time", third(from), b, from+after)
		}
	}
}

func TestStepOfTicksAtTheEnds(t *testing.T) {
	b := api.Vec{13 * one, 13 * one, 13 * one}
	for _, c := range []struct{ from, tick int64 }{
		{least, least}, {least, least + 9}, {least, least + 10001}, {least, -1}, {least, 0}, {least, 1}, {least, greatest}, {least, greatest - 1},
		{least + 1, least}, {least + 10, least}, {least + 1000, least}, {least + 1, greatest}, {least + 1000, greatest},
		{greatest, greatest}, {greatest - 9, greatest}, {greatest - 10001, greatest}, {greatest, greatest - 10}, {greatest, 0}, {greatest, -1},
		// These differences wrap round to 10 to 10000.
		{greatest, least + 9}, {greatest, least + 10}, {greatest, least + 999}, {greatest, least + 9999},
		{greatest - 9, least}, {greatest - 999, least}, {greatest - 9999, least}, {greatest - 500, least + 500}, {1000, least}, {10000, least},
		{greatest, least}, {greatest - 1, least + 1}, {0, least}, {1, least}, {0, greatest}, {-1, greatest}, {-2, greatest},
		{most, -most}, {-most, most}, {most, most - 10}, {-most, -most - 10},
	} {
		begins(t, "at the ends", third(c.from), b, c.tick)
	}
	for after, rate := range seen() {
		want := api.Drift{On: true, Tick: greatest, Last: b, Rate: api.Vec{rate, rate, rate}}
		steps(t, "to the greatest", third(greatest-after), b, greatest, want, false)
	}
}

// change: in one part: the last field, the field, the Rate ahead of it, after how many milliseconds, and the Rate behind it.
type change struct {
	name             string
	last, now, ahead int64
	after            int64
	want             int64
	bad              bool
}

// changes were worked out outside of the program.
func changes() []change {
	return []change{
		{"nothing", 0, 0, 0, 1000, 0, false},
		{"grows", 3 * one, 5 * one, 0, 1000, 733007751851, false},
		{"grows, a Rate above 0", one, one * 5 / 2, 157073089682, 250, 872628276012, false},
		{"grows, a Rate below 0", -one, one * 5 / 2, -157073089684, 1234, 1092809065507, false},
		{"falls", 5 * one, 3 * one, 0, 700, -814453057612, false},
		{"falls, a Rate above 0", one, -366503875927, 2 * one, 10, 1458721894229, false},
		{"falls, a Rate below 0", -25 * one, -26 * one, -3 * one, 10000, -641381782870, false},
		{"stays", -7 * one, -7 * one, 0, 500, 0, false},
		{"stays, a Rate above 0", 7 * one, 7 * one, one, 500, 879609302221, false},
		{"stays, a Rate below 0", 7 * one, 7 * one, -one, 500, -879609302221, false},
		{"stays at 0, a Rate above 0", 0, 0, 123456789, 9999, 20577846, false},
		{"as fast as the Rate", 0, one / 2, one, 500, one, false},
		{"the least change, too little", 0, 1, 0, 10, 0, false},
		{"the least change down, too little", 0, -1, 0, 10, 0, false},

		{"change of a half", 0, 1, 1, 2000, 1, false},
		{"change of a half down", 0, -1, -1, 2000, -1, false},
		{"change of 1 and a half", 0, 3, 2, 2000, 2, false},
		{"change of 1 and a half down", 7, 4, -2, 2000, -2, false},
		{"change of 2 and a half", 0, 1, 3, 400, 3, false},
		{"change of 2 and a half down", 0, -1, -3, 400, -3, false},
		{"change of 62 and a half", -5, -4, 63, 16, 63, false},
		{"change of 62 and a half down", -4, -5, -63, 16, -63, false},
		{"change of less than a half", 0, 4, 0, 10000, 0, false},
		{"change of less than a half down", 0, -4, 0, 10000, 0, false},
		{"change of a half, then most of it", 0, 5, 0, 10000, 1, false},
		{"change of a half down, then most of it", 0, -5, 0, 10000, -1, false},
		{"change of a half twice", 0, 1, 0, 2000, 1, false},
		{"change of a half twice down", 0, -1, 0, 2000, -1, false},
		{"both are halves", 0, 3, 0, 2000, 1, false},
		{"both are halves down", 0, -3, 0, 2000, -1, false},
		{"both are halves, to a Rate", 0, 1, 6, 400, 5, false},
		{"both are halves down, to a Rate", 0, -1, -6, 400, -5, false},

		{"Rate by a half, to 0", 0, 0, 1, 2000, 0, false},
		{"Rate by a half, to 0 from below", 0, 0, -1, 2000, 0, false},
		{"Rate by 1 and a half", 0, 0, 3, 2000, 1, false},
		{"Rate by 1 and a half, from below", 0, 0, -3, 2000, -1, false},
		{"Rate by a half, above 0", 0, 8, 5, 2000, 4, false},
		{"Rate by three quarters", 0, 6, 0, 6000, 1, false},
		{"Rate by 1 and a half, of three quarters", 0, 12, 0, 6000, 2, false},
		{"Rate by 1 and a half, of three quarters, down", 0, -12, 0, 6000, -2, false},
		{"Rate by a third", 9, 9, 2, 400, 2, false},
		{"Rate by a half, of a sixth", 9, 9, 3, 400, 2, false},
		{"Rate by a half, of a sixth, from below", 9, 9, -3, 400, -2, false},
		{"Rate by two thirds", 9, 9, 4, 400, 3, false},
		{"Rate by less than a half, of a small part", 0, 0, 100, 10, 100, false},
		{"Rate by more than a half, of a small part", 0, 0, 101, 10, 100, false},
		{"Rate by less than a half, from below", 0, 0, -100, 10, -100, false},
		{"Rate by more than a half, from below", 0, 0, -101, 10, -100, false},

		{"Most stays", most, most, 0, 1000, 0, false},
		{"-Most stays", -most, -most, 0, 1000, 0, false},
		{"a Rate of Most", 0, 0, most, 1000, 3074457345618258603, false},
		{"a Rate of -Most", 0, 0, -most, 1000, -3074457345618258603, false},
		{"a Rate of Most, soon", 0, 0, most, 10, 4588742306892923288, false},
		{"a Rate of Most, late", 0, 0, most, 10000, 768614336404564651, false},
		{"to Most", 0, most, 0, 1000, 1537228672809129301, false},
		{"to -Most", 0, -most, 0, 1000, -1537228672809129301, false},
		{"to Most, a Rate of Most", 0, most, most, 1000, most, false},
		{"to -Most, a Rate of -Most", 0, -most, -most, 1000, -most, false},
		{"to Most late, a Rate of Most", 0, most, most, 10000, 1152921504606846976, false},
		{"by Most", -1, most - 1, 0, 10000, 384307168202282325, false},
		{"by Most, half on each side", -most / 2, most / 2, 0, 10000, 384307168202282325, false},
		{"by Most and 1", -1, most, 0, 10000, 0, true},
		{"by -Most and -1", 1, -most, 0, 10000, 0, true},
		{"by Most and 1, half on each side", -most / 2, most/2 + 1, 0, 10000, 0, true},
		{"by Most twice", -most, most, 0, 10000, 0, true},
		{"by -Most twice", most, -most, 0, 10000, 0, true},
		{"a change just to Most", 0, 4607074332408960516, 0, 999, 1536203511973644720, false},
		{"a change just to -Most", 0, -4607074332408960516, 0, 999, -1536203511973644720, false},
		{"a change just past Most", 0, 4607074332408960517, 0, 999, 0, true},
		{"a change just past -Most", 0, -4607074332408960517, 0, 999, 0, true},
		{"a change past Most by less than a half", 0, 627189298506124755, 0, 136, 293627948738822451, false},
		{"a change past -Most by less than a half", 0, -627189298506124755, 0, 136, -293627948738822451, false},
		{"a change to nearly Most, soon", 0, 46116860184273879, 0, 10, 22943711534464616, false},
		{"a change past Most, soon", 0, 46116860184273880, 0, 10, 0, true},
		{"a change past -Most, soon", 0, -46116860184273880, 0, 10, 0, true},
		{"a change of Most, a Rate just below 0", 0, most, -1, 1000, 0, true},
		{"a change of -Most, a Rate just above 0", 0, -most, 1, 1000, 0, true},
		{"a change just below 0, a Rate of Most", 1000, 999, most, 1000, 0, true},
		{"a change just above 0, a Rate of -Most", 1000, 1001, -most, 1000, 0, true},
		{"a change just below 0, a Rate of nearly Most", 1000, 999, most - 1, 1000, 3074457345618258602, false},
		{"a change just above 0, a Rate of nearly -Most", 1000, 1001, 1 - most, 1000, -3074457345618258602, false},
	}
}

// Each change in each of the three parts, beside fields that stay.
func TestStepOfChanges(t *testing.T) {
	for _, c := range changes() {
		for place := range 3 {
			for _, beside := range []int64{0, one, -one} {
				others := api.Vec{beside, beside, beside}
				d := api.Drift{On: true, Tick: 3000, Last: at(place, c.last, others), Rate: at(place, c.ahead, api.Vec{})}
				b := at(place, c.now, others)
				if c.bad {
					fails(t, c.name, d, b, 3000+c.after)
					continue
				}
				want := api.Drift{On: true, Tick: 3000 + c.after, Last: b, Rate: at(place, c.want, api.Vec{})}
				steps(t, c.name, d, b, 3000+c.after, want, false)
			}
		}
	}
}

// Three changes at once: each part has its own.
func TestStepOfThreeParts(t *testing.T) {
	d := api.Drift{On: true, Tick: 50, Last: api.Vec{one, 2 * one, -one}}
	d = bdot.Step(&fixed.Flow{}, d, api.Vec{one * 5 / 2, 2 * one, -4 * one}, 1050)
	if d != (api.Drift{On: true, Tick: 1050, Last: api.Vec{one * 5 / 2, 2 * one, -4 * one}, Rate: api.Vec{one / 2, 0, -one}}) {
		t.Error(d)
	}
	steps(t, "three parts", d, api.Vec{one * 2, 2*one + 3, -4 * one}, 3050, api.Drift{
		On: true, Tick: 3050, Last: api.Vec{one * 2, 2*one + 3, -4 * one}, Rate: api.Vec{one / 8, 1, -one / 2},
	}, false)
}

// Of a field a part that is no number makes the flow bad, whether a change is taken of it or not.
func TestStepOfAFieldThatIsNoNumber(t *testing.T) {
	for place := range 3 {
		for _, none := range noNumbers() {
			for _, others := range []api.Vec{{}, {one, -one, one}} {
				b := at(place, none, others)
				for _, tick := range []int64{2000, 2009, 2010, 3000, 12000, 12001, 1999, least, greatest} {
					fails(t, "not On", api.Drift{}, b, tick)
					fails(t, "not On, with fields", api.Drift{Tick: 2000, Last: b, Rate: b}, b, tick)
					fails(t, "On", api.Drift{On: true, Tick: 2000}, b, tick)
					// That a last field is the same doesn't make it 0.
					fails(t, "On, the same", api.Drift{On: true, Tick: 2000, Last: b}, b, tick)
				}
			}
		}
	}
}

// Of what is kept a part that is no number makes the flow bad where a change is taken; else it plays no part.
func TestStepOfWhatIsKeptThatIsNoNumber(t *testing.T) {
	b := api.Vec{one, -one, one}
	for place := range 3 {
		for _, none := range noNumbers() {
			last := api.Drift{On: true, Tick: 2000, Last: at(place, none, b)}
			rate := api.Drift{On: true, Tick: 2000, Last: b, Rate: at(place, none, api.Vec{})}
			both := api.Drift{On: true, Tick: 2000, Last: at(place, none, b), Rate: at(place, none, b)}
			for _, d := range []api.Drift{last, rate, both} {
				for _, tick := range []int64{2010, 2011, 3000, 11999, 12000} {
					fails(t, "in time", d, b, tick)
				}
				for _, tick := range []int64{2000, 2001, 2009, 12001, 1999, 1990, least, greatest} {
					begins(t, "not in time", d, b, tick)
				}
			}
		}
	}
}

// The ends of the numbers are kept as they are.
func TestStepKeepsTheEnds(t *testing.T) {
	for place := range 3 {
		for _, end := range []int64{most, -most, most - 1, 1 - most} {
			b := at(place, end, api.Vec{1, 2, 3})
			d := api.Drift{On: true, Tick: 2000, Last: b, Rate: api.Vec{one, one, one}}
			begins(t, "not On", api.Drift{}, b, 1)
			begins(t, "not in time", d, b, 2009)
			steps(t, "in time", d, b, 3000, api.Drift{On: true, Tick: 3000, Last: b, Rate: api.Vec{733007751851, 733007751851, 733007751851}}, false)
		}
	}
}

func TestDipoleOfOneThatIsNotOn(t *testing.T) {
	for _, d := range []api.Drift{
		{},
		{Tick: 5, Last: api.Vec{1, 2, 3}, Rate: api.Vec{one, -one, 2}},
		{Rate: api.Vec{most, -most, most}},
		{Rate: api.Vec{most + 1, 0, 0}}, {Rate: api.Vec{0, -most - 1, 0}}, {Rate: api.Vec{0, 0, greatest}}, {Rate: api.Vec{least, least, least}},
	} {
		dips(t, d, api.Vec{}, false)
	}
}

// answer: a Rate, and its dipole.
type answer struct{ rate, want int64 }

// answers were worked out outside of the program.
func answers() []answer {
	return []answer{
		{0, 0},
		{1, 0}, {2, -1}, {3, -1}, {4, -1}, {5, -1}, {6, -2}, {7, -2}, {8, -2},
		{-1, 0}, {-2, 1}, {-3, 1}, {-4, 1}, {-5, 1}, {-6, 2}, {-7, 2}, {-8, 2},
		{one / 2, -one / 8}, {-one / 2, one / 8}, {one / 3, -91625968981}, {-one / 3, 91625968981},
		{879609302214, 1 - fifth}, {879609302217, 1 - fifth},
		{879609302218, -fifth}, {879609302219, -fifth}, {879609302220, -fifth}, {879609302221, -fifth},
		{879609302222, -fifth}, {879609302223, -fifth}, {879609302225, -fifth}, {879609302226, -fifth},
		{-879609302214, fifth - 1}, {-879609302217, fifth - 1},
		{-879609302218, fifth}, {-879609302219, fifth}, {-879609302220, fifth}, {-879609302221, fifth},
		{-879609302222, fifth}, {-879609302223, fifth}, {-879609302225, fifth}, {-879609302226, fifth},
		{one, -fifth}, {-one, fifth}, {1000 * one, -fifth}, {-1000 * one, fifth},
		{most - 1, -fifth}, {most, -fifth}, {1 - most, fifth}, {-most, fifth},
	}
}

func TestDipole(t *testing.T) {
	for _, a := range answers() {
		for place := range 3 {
			d := api.Drift{On: true, Rate: at(place, a.rate, api.Vec{})}
			dips(t, d, at(place, a.want, api.Vec{}), false)
			d.Rate = at(place, a.rate, api.Vec{one / 2, one / 2, one / 2})
			dips(t, d, at(place, a.want, api.Vec{-one / 8, -one / 8, -one / 8}), false)
			d.Rate = at(place, a.rate, api.Vec{-most, -most, -most})
			dips(t, d, at(place, a.want, api.Vec{fifth, fifth, fifth}), false)
		}
	}
}

func TestDipoleOfRatesThatAreNoNumbers(t *testing.T) {
	for place := range 3 {
		for _, none := range noNumbers() {
			for _, others := range []api.Vec{{}, {one, -one, one}, {most, most, most}} {
				dips(t, api.Drift{On: true, Rate: at(place, none, others)}, api.Vec{}, true)
			}
		}
	}
}

// A dipole hangs on the Rate alone: the last field and its tick may be anything.
func TestDipoleOfOtherFields(t *testing.T) {
	for _, d := range []api.Drift{
		{Tick: least, Last: api.Vec{most + 1, -most - 1, greatest}},
		{Tick: greatest, Last: api.Vec{least, least, least}},
		{Tick: 1000, Last: api.Vec{one, 2, -one}},
	} {
		d.On, d.Rate = true, api.Vec{one / 2, 0, -one}
		dips(t, d, api.Vec{-one / 8, 0, fifth}, false)
	}
}
