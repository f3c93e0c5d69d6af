package bdot_test

import (
	"testing"

	"alidade/api"
	"alidade/bdot"
	"alidade/fixed"
)

// against holds P13.2 for a Rate, and answers how many of its dipole's parts are as great as they may be.
func against(t *testing.T, rate api.Vec) (full int) {
	t.Helper()
	f := &fixed.Flow{}
	v := bdot.Dipole(f, api.Drift{On: true, Rate: rate})
	if f.Bad {
		t.Fatalf("Dipole of %v is bad", rate)
	}
	for i := range v {
		// 0.2 is 2^40 / 5, of which five come to 2^40.
		if 5*v[i] > one || 5*v[i] < -one {
			t.Fatalf("Dipole of %v: %v is above 0.2", rate, v)
		}
		if v[i] > 0 && rate[i] > 0 || v[i] < 0 && rate[i] < 0 {
			t.Fatalf("Dipole of %v: %v has its sign", rate, v)
		}
		// What answers nothing at all would keep the promise, too.
		if (v[i] == 0) != (-2 < rate[i] && rate[i] < 2) {
			t.Fatalf("Dipole of %v: %v", rate, v)
		}
		if v[i] == fifth || v[i] == -fifth {
			full++
		}
	}
	return full
}

func TestADipoleIsAgainstTheChange(t *testing.T) {
	thrown := dice(132)
	full, all := 0, 0
	for bits := 1; bits <= 62; bits++ {
		for range 2000 {
			full += against(t, thrown.vector(bits))
			full += against(t, at(thrown.below(3), thrown.number(62), thrown.vector(bits)))
			all += 6
		}
	}
	if full < all/4 || full > all*3/4 {
		t.Errorf("%d of %d parts are full", full, all)
	}
}

// Next to all powers of two, and to where a dipole is full, on both sides, in each part.
func TestADipoleIsAgainstTheChangeAtEdges(t *testing.T) {
	centers := []int64{0, 879609302218, 879609302222, one, most - 4}
	for bits := range 62 {
		centers = append(centers, int64(1)<<bits)
	}
	for _, center := range centers {
		for beside := int64(-4); beside <= 4; beside++ {
			for place := range 3 {
				for _, others := range []api.Vec{{}, {1, -1, 1}, {most, -most, most}, {-one, one, -one}} {
					against(t, at(place, center+beside, others))
					against(t, at(place, -center-beside, others))
				}
			}
		}
	}
}

// Over the whole of the numbers in even strides.
func TestADipoleIsAgainstTheChangeAllOver(t *testing.T) {
	const stride = most / 20011
	for n := -most; n <= most-stride; n += stride {
		against(t, api.Vec{n, -n, n / 3})
	}
	for n := -2 * one; n <= 2*one; n += one / 20011 {
		against(t, api.Vec{n / 2, n, -n})
	}
}

// In one part the Rate comes to lie between what it was and what the change says, those two among them: so no sum leaves the numbers.
func TestARateLiesBetween(t *testing.T) {
	thrown := dice(77)
	for bits := 1; bits <= 61; bits++ {
		for range 500 {
			// After a second the change is what has come to the field.
			ahead, grown := thrown.number(bits), thrown.number(bits)
			f := &fixed.Flow{}
			d := bdot.Step(f, api.Drift{On: true, Rate: api.Vec{ahead}}, api.Vec{grown}, 1000)
			if f.Bad || d.Rate[0] < min(ahead, grown) || d.Rate[0] > max(ahead, grown) {
				t.Fatalf("from %d to %d: %v, bad %v", ahead, grown, d, f.Bad)
			}
		}
	}
}

// A field that goes on changing alike is a Rate in the end, and the coils answer it.
func TestARateComesToTheChange(t *testing.T) {
	f := &fixed.Flow{}
	b := api.Vec{20 * one, -30 * one, 5 * one}
	d := bdot.Step(f, api.Drift{}, b, 0)
	for i := int64(1); i <= 400; i++ {
		b = api.Vec{b[0] + one/20, b[1] - one/40, b[2]}
		d = bdot.Step(f, d, b, 100*i)
		v := bdot.Dipole(f, d)
		if f.Bad || v[0] > 0 || v[1] < 0 || v[2] != 0 {
			t.Fatalf("%d: %v, %v, bad %v", i, d, v, f.Bad)
		}
	}
	for i, want := range (api.Vec{one / 2, -one / 4, 0}) {
		if off := d.Rate[i] - want; off > one>>20 || off < -one>>20 {
			t.Errorf("part %d: %d; want %d", i, d.Rate[i], want)
		}
	}
}

// What goes bad in one call stays so in those behind it; a good flow goes on.
func TestFlowsGoOn(t *testing.T) {
	on := api.Drift{On: true, Rate: api.Vec{one, 0, 0}}
	f := &fixed.Flow{}
	for range 2 {
		if d := bdot.Step(f, on, api.Vec{}, 2000); d.Rate != (api.Vec{one / 2, 0, 0}) || f.Bad {
			t.Errorf("%v, bad %v", d, f.Bad)
		}
		if v := bdot.Dipole(f, on); v != (api.Vec{-fifth, 0, 0}) || f.Bad {
			t.Errorf("%v, bad %v", v, f.Bad)
		}
	}
	bdot.Step(f, on, api.Vec{0, 0, most + 1}, 0)
	for range 2 {
		if d := bdot.Step(f, on, api.Vec{}, 2000); d != (api.Drift{}) || !f.Bad {
			t.Errorf("behind a bad one: %v, bad %v", d, f.Bad)
		}
		if d := bdot.Step(f, api.Drift{}, api.Vec{}, 2000); d != (api.Drift{}) || !f.Bad {
			t.Errorf("behind a bad one, not On: %v, bad %v", d, f.Bad)
		}
		if v := bdot.Dipole(f, on); v != (api.Vec{}) || !f.Bad {
			t.Errorf("behind a bad one: %v, bad %v", v, f.Bad)
		}
	}
	f = &fixed.Flow{}
	bdot.Dipole(f, api.Drift{On: true, Rate: api.Vec{0, 0, least}})
	if d := bdot.Step(f, on, api.Vec{}, 2000); d != (api.Drift{}) || !f.Bad {
		t.Errorf("behind a bad dipole: %v, bad %v", d, f.Bad)
	}
}

// What is answered hangs on the arguments alone: whatever was asked ahead of it, it is the same.
func TestOneAnswer(t *testing.T) {
	asked := func() (all []api.Drift) {
		for _, c := range changes() {
			d := api.Drift{On: true, Tick: 9, Last: api.Vec{c.last}, Rate: api.Vec{c.ahead}}
			all = append(all, bdot.Step(&fixed.Flow{}, d, api.Vec{c.now}, 9+c.after))
			all = append(all, api.Drift{Rate: bdot.Dipole(&fixed.Flow{}, d)})
		}
		return all
	}
	first := asked()
	bdot.Step(&fixed.Flow{Bad: true}, third(0), api.Vec{least}, 10)
	bdot.Dipole(nil, third(0))
	for i, again := range asked() {
		if again != first[i] {
			t.Errorf("%d: %v, then %v", i, first[i], again)
		}
	}
}
