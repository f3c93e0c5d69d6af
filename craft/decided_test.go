package craft_test

import (
	"math"
	"testing"

	"alidade/api"
	"alidade/fixed"
	"alidade/triad"
)

// The field's change: by the magnetometer's reading and its own tick, in each mode.
func TestTheFieldsChange(t *testing.T) {
	for _, mode := range []int{api.Detumble, api.Coarse, api.Safe} {
		c := step(t, in(mode, seen-500), seen, says(api.KindMag, seen-300, 2000, 0, -1000))
		first := api.Drift{On: true, Tick: seen - 300, Last: api.Vec{20 * one, 0, -10 * one}}
		if c.Drift != first {
			t.Errorf("mode %d, first: %+v; want %+v", mode, c.Drift, first)
		}
		// Nothing heard of the field: it stays.
		c = step(t, c, seen+500, gyro(seen+500)+cells(seen+500)+mag(seen-1))
		if c.Drift != first || c.Rejects != 1 {
			t.Errorf("mode %d, without: %+v", mode, c.Drift)
		}
		// Two seconds behind the first: 4 more is 2 in a second, and the Rate goes half of the way there.
		c = step(t, c, seen+2000, says(api.KindMag, seen+1700, 2400, 0, -1000))
		second := api.Drift{On: true, Tick: seen + 1700, Last: api.Vec{24 * one, 0, -10 * one}, Rate: api.Vec{one}}
		if c.Drift != second {
			t.Errorf("mode %d, second: %+v; want %+v", mode, c.Drift, second)
		}
		// A reading that is older than the last one begins anew.
		c = step(t, c, seen+2010, says(api.KindMag, seen+1699, 3000, 0, 0))
		if want := (api.Drift{On: true, Tick: seen + 1699, Last: api.Vec{30 * one}}); c.Drift != want {
			t.Errorf("mode %d, older: %+v; want %+v", mode, c.Drift, want)
		}
	}
}

// Of any craft: where the change comes to no number nothing is kept; without a reading all stays.
func TestTheFieldsChangeOfAnyCraft(t *testing.T) {
	for _, d := range []api.Drift{
		{On: true, Tick: seen - 500, Rate: api.Vec{0, math.MaxInt64, 0}},
		{On: true, Tick: seen - 500, Rate: api.Vec{one, one, -api.Most - 1}},
		{On: true, Tick: seen - 500, Last: api.Vec{math.MinInt64}},
		{On: true, Tick: seen - 10, Last: api.Vec{api.Most}},
	} {
		c := in(api.Detumble, seen-500)
		c.Drift = d
		if got := step(t, c, seen, mag(seen)); got.Drift != (api.Drift{}) || got.Rejects != 0 {
			t.Errorf("%+v: %+v", d, got.Drift)
		}
		if got := step(t, c, seen, gyro(seen)); got.Drift != d {
			t.Errorf("%+v, without a reading: %+v", d, got.Drift)
		}
	}
	// What isn't On, or lies too far back, is begun anew, whatever it held.
	for _, d := range []api.Drift{
		{Tick: seen - 500, Last: api.Vec{math.MinInt64}, Rate: api.Vec{math.MaxInt64}},
		{On: true, Tick: seen - 10001, Rate: api.Vec{math.MaxInt64}},
		{On: true, Tick: math.MinInt64, Rate: api.Vec{one}},
		{On: true, Tick: math.MaxInt64, Rate: api.Vec{one}},
	} {
		c := in(api.Detumble, seen-500)
		c.Drift = d
		if got, want := step(t, c, seen, mag(seen)), (api.Drift{On: true, Tick: seen, Last: api.Vec{0, 30 * one}}); got.Drift != want {
			t.Errorf("%+v: %+v; want %+v", d, got.Drift, want)
		}
	}
}

// gapped: did a step from Coarse and from Fine have a gap? Coarse and Fine tell it by a fault, the others don't.
func gapped(t *testing.T, on bool, last, tick int64) bool {
	t.Helper()
	c := api.Craft{On: on, Tick: last, Plan: api.Plan{Mode: api.Coarse, Good: 1}}
	coarse := step(t, c, tick, "")
	fine, _ := comesToFine(t, still(seen))
	fine.On, fine.Tick = on, last
	got := step(t, fine, tick, "")
	if (got.Plan.Faults == api.FaultGap) != (coarse.Plan.Faults == api.FaultGap) || coarse.Plan.Mode != api.Coarse {
		t.Errorf("from %d to %d: Coarse %+v, Fine %+v", last, tick, coarse.Plan, got.Plan)
	}
	if left := got.Plan.Mode != api.Fine; left != (coarse.Plan.Faults != 0) {
		t.Errorf("from %d to %d: Coarse %+v, Fine %+v", last, tick, coarse.Plan, got.Plan)
	}
	for _, mode := range []int{api.Detumble, api.Safe} {
		c.Plan = api.Plan{Mode: mode}
		if got := step(t, c, tick, ""); got.Plan != c.Plan {
			t.Errorf("from %d to %d: %+v", last, tick, got.Plan)
		}
	}
	return coarse.Plan == api.Plan{Mode: api.Coarse, Faults: api.FaultGap}
}

func TestGaps(t *testing.T) {
	for ms, gap := range map[int64]bool{1: true, 2: true, 9: true, 10: false, 11: false, 500: false, 9999: false, 10000: false, 10001: true, 10002: true, 100000000: true} {
		for _, last := range []int64{0, seen, api.MaxTick - 100000000} {
			if got := gapped(t, true, last, last+ms); got != gap {
				t.Errorf("%d behind %d: %v", ms, last, got)
			}
			if !gapped(t, false, last, last+ms) {
				t.Errorf("not On, %d behind %d: no gap", ms, last)
			}
		}
	}
	for _, tick := range []int64{0, 5, 499, 500, 501} {
		if !gapped(t, false, 500, tick) {
			t.Errorf("not On, from 500 to %d: no gap", tick)
		}
	}
}

// Ticks below 0, and those so far below that the difference is no int64, in a craft that is On.
func TestGapsOfAnyCraft(t *testing.T) {
	for _, l := range []struct {
		last, tick int64
		gap        bool
	}{
		{-5, 4, true}, {-5, 5, false}, {-5, 9995, false}, {-5, 9996, true}, {-10, 0, false}, {-9, 0, true}, {-10000, 0, false}, {-10001, 0, true},
		{-api.MaxTick, api.MaxTick, true}, {math.MinInt64, 0, true}, {math.MinInt64, 10, true}, {math.MinInt64, api.MaxTick, true},
		{math.MinInt64 + 10, 0, true}, {math.MinInt64 + 10000, 9999, true}, {math.MinInt64 + api.MaxTick, api.MaxTick, true},
	} {
		if got := gapped(t, true, l.last, l.tick); got != l.gap {
			t.Errorf("from %d to %d: %v", l.last, l.tick, got)
		}
	}
	// Very great ones: no tick is above them, unless the craft isn't On.
	for _, last := range []int64{api.MaxTick, api.MaxTick + 10, math.MaxInt64 - 100, math.MaxInt64} {
		for _, tick := range []int64{0, 10, api.MaxTick} {
			refused(t, api.Craft{On: true, Tick: last, Plan: api.Plan{Mode: api.Coarse}}, tick)
			if !gapped(t, false, last, tick) {
				t.Errorf("not On, from %d to %d: no gap", last, tick)
			}
		}
	}
}

// threeSquares: counts whose squares come to n.
func threeSquares(n int) (a, b, c int) {
	for a = 0; a*a <= n; a++ {
		for b = 0; a*a+b*b <= n; b++ {
			c = int(math.Sqrt(float64(n - a*a - b*b)))
			if c*c == n-a*a-b*b && a != 0 && b != 0 {
				return a, b, c
			}
		}
	}
	panic("none")
}

// One / 20 is some 1638.4 counts: 2684354 are the most squares that aren't above it.
func TestSlow(t *testing.T) {
	const most = 2684354
	a, b, c := threeSquares(most)
	d, e, f := threeSquares(most + 1)
	for _, l := range []struct {
		slow  bool
		rates [][3]int
	}{
		{true, [][3]int{{}, {1638}, {0, -1638}, {0, 0, 1638}, {a, b, c}, {-b, c, -a}, {c, -a, b}}},
		{false, [][3]int{{1639}, {0, -1639}, {0, 0, 1639}, {d, e, f}, {-e, f, -d}, {f, -d, e}, {30000, -30000, 30000}}},
	} {
		for _, r := range l.rates {
			s := says(api.KindGyro, seen, r[0], r[1], r[2])
			v := reading(s).V
			if n := (&fixed.Flow{}).Norm(v[0], v[1], v[2]); (n <= one/20) != l.slow {
				t.Fatalf("%v: %d", r, n)
			}
			want := api.Plan{}
			if l.slow {
				want.Calm = 1
			}
			if got := step(t, in(api.Detumble, seen-500), seen, s); got.Plan != want {
				t.Errorf("%v in Detumble: %+v", r, got.Plan)
			}
			want = api.Plan{}
			if l.slow {
				want.Mode = api.Coarse
			}
			if got := step(t, in(api.Coarse, seen-500), seen, s); got.Plan != want {
				t.Errorf("%v in Coarse: %+v", r, got.Plan)
			}
		}
	}
	if v := reading(says(api.KindGyro, seen, a, b, c)).V; one/20-(&fixed.Flow{}).Norm(v[0], v[1], v[2]) > 1<<14 {
		t.Errorf("%d, %d, %d are far from One / 20", a, b, c)
	}
	// Without a reading nothing is slow: neither is it counted as calm, nor does it lead back.
	calm := in(api.Detumble, seen-500)
	calm.Plan.Calm = 2
	if got := step(t, calm, seen, ""); got.Plan != (api.Plan{}) {
		t.Errorf("Detumble, without: %+v", got.Plan)
	}
	if got := step(t, in(api.Coarse, seen-500), seen, ""); got.Plan != (api.Plan{Mode: api.Coarse}) {
		t.Errorf("Coarse, without: %+v", got.Plan)
	}
}

// good: is a step counted as good in Coarse? Twice: from none counted, and from one, behind which it is Fine.
func good(t *testing.T, c api.Craft, tick int64, bytes string) bool {
	t.Helper()
	c.Plan = api.Plan{Mode: api.Coarse}
	once := step(t, c, tick, bytes)
	c.Plan.Good = 1
	twice := step(t, c, tick, bytes)
	if once.Plan.Good == 1 && twice.Plan == (api.Plan{Mode: api.Fine}) {
		return true
	}
	if once.Plan != (api.Plan{Mode: api.Coarse}) || twice.Plan != once.Plan {
		t.Errorf("%+v, and %+v", once.Plan, twice.Plan)
	}
	return false
}

// The sky of a craft that is Placed, of one that isn't, and of elements by which the flow goes bad.
func TestTheSky(t *testing.T) {
	c := in(api.Coarse, seen-500)
	all := gyro(seen) + cells(seen) + mag(seen)
	if !good(t, c, seen, all) {
		t.Error("Placed: not good")
	}
	c.Placed = false
	if good(t, c, seen, all) {
		t.Error("not Placed: good")
	}
	for name, spoil := range map[string]func(o *api.Orbit){
		"none":      func(o *api.Orbit) { *o = api.Orbit{} },
		"low":       func(o *api.Orbit) { o.A = 7232738120604 },
		"high":      func(o *api.Orbit) { o.A = 9211859050600 },
		"long":      func(o *api.Orbit) { o.E = 109951162778 },
		"turned":    func(o *api.Orbit) { o.I = -1 },
		"node":      func(o *api.Orbit) { o.Node = 4*1727108826179 + 1 },
		"no tick":   func(o *api.Orbit) { o.At = -1 },
		"no number": func(o *api.Orbit) { o.M = math.MinInt64 },
	} {
		c := in(api.Coarse, seen-500)
		spoil(&c.Orbit)
		if good(t, c, seen, all) {
			t.Errorf("%s: good", name)
		}
	}
	// It is the sky of the step's tick: one and the same craft, at ticks that differ.
	if good(t, in(api.Coarse, near-500), near, gyro(near)+cells(near)+mag(near)) {
		t.Error("near: good")
	}
	if good(t, in(api.Coarse, shaded-500), shaded, gyro(shaded)+cells(shaded)+mag(shaded)) {
		t.Error("shaded: good")
	}
}

// Pair and Lit, each with one of its conditions missing.
func TestPairAndLit(t *testing.T) {
	for tick, want := range map[int64][2]bool{seen: {true, false}, near: {false, false}, shaded: {true, true}, dusk - 1: {true, false}, dusk: {true, true}} {
		all, dark := still(tick).sky()
		if apart := triad.Apart(&fixed.Flow{}, all[0], all[1]); apart != want[0] || dark != want[1] {
			t.Fatalf("%d: %v, %v", tick, apart, dark)
		}
	}
	for _, l := range []struct {
		name string
		tick int64
		mag  []int
		miss string
		good bool
	}{
		{"all is there", seen, []int{0, 3000}, "", true},
		{"10 degrees", seen, []int{9848, 1737}, "", true},
		{"less than 10 degrees", seen, []int{9848, 1736}, "", false},
		{"all but opposite", seen, []int{-9848, 0, 1736}, "", false},
		{"opposite, but for 10 degrees", seen, []int{-9848, 0, 1737}, "", true},
		{"one direction", seen, []int{3000}, "", false},
		{"no gyro", seen, []int{0, 3000}, "gyro", false},
		{"no sun", seen, []int{0, 3000}, "sun", false},
		{"no mag", seen, []int{0, 3000}, "mag", false},
		{"one direction of the sky", near, []int{0, 3000}, "", false},
		{"shaded", shaded, []int{0, 3000}, "", false},
		{"just not yet shaded", dusk - 1, []int{0, 3000}, "", true},
		{"just shaded", dusk, []int{0, 3000}, "", false},
	} {
		bytes := ""
		for kind, s := range map[string]string{"gyro": gyro(l.tick), "sun": cells(l.tick), "mag": says(api.KindMag, l.tick, l.mag...)} {
			if kind != l.miss {
				bytes += s
			}
		}
		if got := good(t, in(api.Coarse, l.tick-500), l.tick, bytes); got != l.good {
			t.Errorf("%s: %v", l.name, got)
		}
	}
}
