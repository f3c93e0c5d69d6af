package triad_test

import (
	"math"
	"testing"

	"alidade/api"
	"alidade/fixed"
	"alidade/triad"
)

const (
	one  = api.One
	most = api.Most
)

// The sine of 10 degrees, as the chapter gives it, and the cosine, rounded.
const (
	sine10   = 190928190487
	cosine10 = 1082807575562
)

func TestApart(t *testing.T) {
	x := api.Vec{one}
	for _, c := range []struct {
		name string
		a, b api.Vec
		want bool
		bad  bool
	}{
		{"upright", x, api.Vec{0, one}, true, false},
		{"upright the other way", x, api.Vec{0, 0, -one}, true, false},
		{"upright, of other lengths", api.Vec{most}, api.Vec{0, 0, 1 << 20}, true, false},
		{"45 degrees", x, api.Vec{one, one}, true, false},
		{"135 degrees", x, api.Vec{-one, one}, true, false},
		{"alike", x, x, false, false},
		{"alike, of other lengths", api.Vec{one, -2 * one, 3 * one}, api.Vec{7 * one, -14 * one, 21 * one}, false, false},
		{"opposite", x, api.Vec{-one}, false, false},
		{"opposite, of other lengths", api.Vec{one, -2 * one, 3 * one}, api.Vec{-7 * one, 14 * one, -21 * one}, false, false},

		{"the sine itself", x, api.Vec{cosine10, sine10}, true, false},
		{"one below the sine", x, api.Vec{cosine10, sine10 - 1}, false, false},
		{"one above the sine", x, api.Vec{cosine10, sine10 + 1}, true, false},
		{"the sine itself, below 0", x, api.Vec{cosine10, 0, -sine10}, true, false},
		{"one below the sine, below 0", x, api.Vec{cosine10, 0, 1 - sine10}, false, false},
		{"the sine itself, nearly opposite", x, api.Vec{-cosine10, sine10}, true, false},
		{"one below the sine, nearly opposite", x, api.Vec{-cosine10, sine10 - 1}, false, false},
		{"the sine itself, aslant", api.Vec{-650499593880, -1829908667, 692420582050}, api.Vec{-828932874876, -150287062025, 706547880584}, true, false},
		{"the sine itself, aslant, nearly opposite", api.Vec{-650499593880, -1829908667, 692420582050}, api.Vec{828932874876, 150287062025, -706547880584}, true, false},
		{"one below the sine, aslant", api.Vec{24150178885, 479927320729, -243281036}, api.Vec{155920046741, 1076413447636, 161086462452}, false, false},
		{"one below the sine, aslant, nearly opposite", api.Vec{24150178885, 479927320729, -243281036}, api.Vec{-155920046741, -1076413447636, -161086462452}, false, false},

		{"the shortest", api.Vec{1 << 20}, api.Vec{0, 1 << 20}, true, false},
		{"the first is too short", api.Vec{1<<20 - 1}, api.Vec{0, one}, false, true},
		{"the second is too short", x, api.Vec{0, 1<<20 - 1}, false, true},
		{"the first is nothing", api.Vec{}, x, false, true},
		{"the second is nothing", x, api.Vec{}, false, true},
		{"most", api.Vec{most}, api.Vec{0, -most}, true, false},
		{"the first is longer than a number", api.Vec{most, most}, api.Vec{0, 0, one}, false, true},
		{"the second is longer than a number", x, api.Vec{0, most, most}, false, true},
		{"a part of the first is no number", api.Vec{one, 0, most + 1}, api.Vec{0, one}, false, true},
		{"a part of the second is no number", x, api.Vec{-most - 1, one}, false, true},
	} {
		f := &fixed.Flow{}
		if got := triad.Apart(f, c.a, c.b); got != c.want || f.Bad != c.bad {
			t.Errorf("%s: %v, bad %v; want %v, bad %v", c.name, got, f.Bad, c.want, c.bad)
		}
		f = &fixed.Flow{}
		if got := triad.Apart(f, c.b, c.a); got != c.want || f.Bad != c.bad {
			t.Errorf("%s, the other first: %v, bad %v; want %v, bad %v", c.name, got, f.Bad, c.want, c.bad)
		}
	}
}

type pair = [2]api.Vec

// attitude: two directions of the sky, the same two of the body, and what stands between; bad is whether there is nothing.
type attitude struct {
	name      string
	sky, body pair
	want      api.Quat
	bad       bool
}

func checkAttitudes(t *testing.T, all []attitude) {
	t.Helper()
	for _, c := range all {
		f := &fixed.Flow{}
		if got := triad.Attitude(f, c.sky, c.body); got != c.want || f.Bad != c.bad {
			t.Errorf("%s: %v, bad %v; want %v, bad %v", c.name, got, f.Bad, c.want, c.bad)
		}
	}
}

// Axes alone: where each number is told without any working out.
func TestAttitudeOfAxes(t *testing.T) {
	x, y, z := api.Vec{one}, api.Vec{0, one}, api.Vec{0, 0, one}
	backX, backY, backZ := api.Vec{-one}, api.Vec{0, -one}, api.Vec{0, 0, -one}
	const half, root = one / 2, 777472127994
	sky := pair{x, y}
	checkAttitudes(t, []attitude{
		{"x y", sky, pair{x, y}, api.Quat{0, 0, 0, one}, false},
		{"x -y: half a turn about x", sky, pair{x, backY}, api.Quat{one, 0, 0, 0}, false},
		{"-x y: half a turn about y", sky, pair{backX, y}, api.Quat{0, one, 0, 0}, false},
		{"-x -y: half a turn about z", sky, pair{backX, backY}, api.Quat{0, 0, one, 0}, false},
		{"-y x: a quarter about z", sky, pair{backY, x}, api.Quat{0, 0, root, root}, false},
		{"y -x: a quarter about z, back", sky, pair{y, backX}, api.Quat{0, 0, -root, root}, false},
		{"x z: a quarter about x, back", sky, pair{x, z}, api.Quat{-root, 0, 0, root}, false},
		{"x -z: a quarter about x", sky, pair{x, backZ}, api.Quat{root, 0, 0, root}, false},
		{"z y: a quarter about y", sky, pair{z, y}, api.Quat{0, root, 0, root}, false},
		{"-z y: a quarter about y, back", sky, pair{backZ, y}, api.Quat{0, -root, 0, root}, false},
		{"y x: half a turn between x and y", sky, pair{y, x}, api.Quat{root, root, 0, 0}, false},
		{"-x -z: half a turn between y and -z", sky, pair{backX, backZ}, api.Quat{0, root, -root, 0}, false},
		{"y z: round", sky, pair{y, z}, api.Quat{-half, -half, -half, half}, false},
		{"z x: round the other way", sky, pair{z, x}, api.Quat{half, half, half, half}, false},
		{"another sky", pair{y, z}, pair{y, z}, api.Quat{0, 0, 0, one}, false},
		{"another sky turned", pair{y, z}, pair{x, y}, api.Quat{half, half, half, half}, false},
	})
}

func TestAttitude(t *testing.T) {
	sky := pair{{one, 2 * one, -3 * one}, {4 * one, -one, one / 2}}
	checkAttitudes(t, []attitude{
		{"as the sky", sky, sky, api.Quat{0, 0, 0, one}, false},
		{"by t", sky, pair{{0, 0, -one}, {one, one, 0}}, api.Quat{345902016507, 12891116638, -501153573622, 915399655533}, false},
		{"by m00", sky, pair{{one}, {0, one}}, api.Quat{797582782426, 564424403152, -352616640233, 360380525210}, false},
		{"by m00, of other lengths", sky, pair{{3 * one, -2 * one, one}, {one, 5 * one, one}}, api.Quat{923909312936, 420473991790, -41480664679, 420473991790}, false},
		{"by m11", sky, pair{{-one, 3 * one, 2 * one}, {one, one, -4 * one}}, api.Quat{-599752945162, -692262072875, -101448763490, 599752945162}, false},
		{"by m22", sky, pair{{-2 * one, -3 * one, -one}, {one, 0, 5 * one}}, api.Quat{665618427538, -84966416749, 786011599434, 375292422144}, false},
		{"the second one is in the plane alone", pair{{one}, {one, 2 * one}}, pair{{one}, {-5 * one, one}}, api.Quat{0, 0, 0, one}, false},
	})
}

func TestAttitudeOfWhatIsTooNear(t *testing.T) {
	x, y := api.Vec{one}, api.Vec{0, one}
	wide := pair{x, y}
	// All that are Apart lie in the plane of x and y, on y's side: there is no turn between them.
	for _, c := range []struct {
		name  string
		other pair
		bad   bool
	}{
		{"just Apart", pair{x, {cosine10, sine10}}, false},
		{"just Apart from the opposite", pair{x, {-cosine10, sine10}}, false},
		{"just not", pair{x, {cosine10, sine10 - 1}}, true},
		{"just not from the opposite", pair{x, {-cosine10, sine10 - 1}}, true},
		{"alike", pair{x, x}, true},
		{"opposite", pair{x, {-one}}, true},
		{"no unit first", pair{{1<<20 - 1}, y}, true},
		{"no unit second", pair{x, {0, 1<<20 - 1}}, true},
		{"nothing", pair{}, true},
		{"too long", pair{x, {0, most, most}}, true},
		{"no number first", pair{{one, most + 1}, y}, true},
		{"no number second", pair{x, {math.MinInt64, one}}, true},
	} {
		want := api.Quat{0, 0, 0, one}
		if c.bad {
			want = api.Quat{}
		}
		checkAttitudes(t, []attitude{
			{c.name + ", the sky's", c.other, wide, want, c.bad},
			{c.name + ", the body's", wide, c.other, want, c.bad},
			{c.name + ", both", c.other, c.other, want, c.bad},
		})
	}
}

// op: a call of the package, of numbers in one row; of a bool the answer is 1 or 0.
type op struct {
	name  string
	takes int
	do    func(f *fixed.Flow, n []int64) api.Quat
	exact func(e *exact, n list) list
}

func ops() []op {
	return []op{
		{"Apart", 6,
			func(f *fixed.Flow, n []int64) api.Quat {
				if triad.Apart(f, api.Vec(n[:3]), api.Vec(n[3:6])) {
					return api.Quat{1}
				}
				return api.Quat{}
			},
			func(e *exact, n list) list {
				if e.apart(n[:3], n[3:6]) {
					return list{whole(1)}
				}
				return list{whole(0)}
			}},
		{"Attitude", 12,
			func(f *fixed.Flow, n []int64) api.Quat {
				return triad.Attitude(f, pair{api.Vec(n[:3]), api.Vec(n[3:6])}, pair{api.Vec(n[6:9]), api.Vec(n[9:12])})
			},
			func(e *exact, n list) list { return e.attitude(n[:3], n[3:6], n[6:9], n[9:12]) }},
	}
}

// plain: numbers of which each op answers something else than 0.
func plain() []int64 {
	return []int64{one, 2 * one, -3 * one, 4 * one, -5 * one, 6 * one, 7 * one, -8 * one, 9 * one, -one, one / 2, one / 3}
}

func TestNoNumberAtAnyPlace(t *testing.T) {
	for _, o := range ops() {
		for place := range o.takes {
			for _, none := range []int64{most + 1, -most - 1, math.MaxInt64, math.MinInt64} {
				n := plain()
				n[place] = none
				f := &fixed.Flow{}
				if got := o.do(f, n); got != (api.Quat{}) || !f.Bad {
					t.Errorf("%s with %d at %d: %v, bad %v", o.name, none, place, got, f.Bad)
				}
			}
		}
	}
}

func TestGoodFlowGoesOn(t *testing.T) {
	f := &fixed.Flow{}
	for range 2 {
		for _, o := range ops() {
			want, _ := wanted(o, plain())
			if got := o.do(f, plain()); got != want || want == (api.Quat{}) || f.Bad {
				t.Errorf("%s: %v, bad %v; want %v", o.name, got, f.Bad, want)
			}
		}
	}
}

// What isn't Apart is no fault of its own: the flow goes on.
func TestNotApartLeavesTheFlow(t *testing.T) {
	f := &fixed.Flow{}
	if triad.Apart(f, api.Vec{one}, api.Vec{one}) || f.Bad {
		t.Errorf("bad %v", f.Bad)
	}
	if !triad.Apart(f, api.Vec{one}, api.Vec{0, one}) || f.Bad {
		t.Errorf("behind it: bad %v", f.Bad)
	}
}

func TestBadAheadAndNil(t *testing.T) {
	rows := [][]int64{
		plain(), make([]int64, 12),
		{most, most, most, most, most, most, most, most, most, most, most, most},
		{math.MinInt64, 0, 0, math.MaxInt64, 0, 0, math.MinInt64, 1, 1, 1, 1, 1},
		{one, 0, 0, 0, one, 0, one, 0, 0, 0, one, 0},
	}
	for _, o := range ops() {
		for _, n := range rows {
			f := &fixed.Flow{Bad: true}
			if got := o.do(f, n); got != (api.Quat{}) || !f.Bad {
				t.Errorf("%s of %v: %v, bad %v", o.name, n, got, f.Bad)
			}
			if got := o.do(nil, n); got != (api.Quat{}) {
				t.Errorf("%s of %v in no flow: %v", o.name, n, got)
			}
		}
	}
}
