package bdot_test

import (
	"math/big"
	"testing"

	"alidade/api"
	"alidade/bdot"
	"alidade/fixed"
)

// The chapter's steps, worked with integers of any size, and with nothing of the program.

func whole(a int64) *big.Int { return big.NewInt(a) }

func isNumber(a *big.Int) bool { return a.CmpAbs(whole(most)) <= 0 }

// ratio: a / b, rounded, a half away from 0; b is above 0.
func ratio(a, b *big.Int) *big.Int {
	up := new(big.Int).Abs(a)
	up.Add(up.Lsh(up, 1), b)
	up.Quo(up, new(big.Int).Lsh(b, 1))
	if a.Sign() < 0 {
		up.Neg(up)
	}
	return up
}

// rateExact answers a part's Rate behind a change after t milliseconds; false, if something came to no number.
func rateExact(last, now, ahead int64, t *big.Int) (int64, bool) {
	grown := new(big.Int).Sub(whole(now), whole(last))
	r := ratio(new(big.Int).Mul(grown, whole(1000)), t)
	more := new(big.Int).Sub(r, whole(ahead))
	leant := ratio(new(big.Int).Mul(more, t), new(big.Int).Add(t, whole(2000)))
	rate := new(big.Int).Add(whole(ahead), leant)
	for _, n := range []*big.Int{whole(last), whole(now), whole(ahead), grown, r, more, leant, rate} {
		if !isNumber(n) {
			return 0, false
		}
	}
	return rate.Int64(), true
}

func stepExact(d api.Drift, b api.Vec, tick int64) (api.Drift, bool) {
	next := api.Drift{On: true, Tick: tick, Last: b}
	after := new(big.Int).Sub(whole(tick), whole(d.Tick))
	goesOn := d.On && after.Cmp(whole(10)) >= 0 && after.Cmp(whole(10000)) <= 0
	for i := range b {
		ok := isNumber(whole(b[i]))
		if goesOn {
			next.Rate[i], ok = rateExact(d.Last[i], b[i], d.Rate[i], after)
		}
		if !ok {
			return api.Drift{}, false
		}
	}
	return next, true
}

func dipoleExact(d api.Drift) (v api.Vec, ok bool) {
	for i := range v {
		if !d.On {
			continue
		}
		if !isNumber(whole(d.Rate[i])) {
			return api.Vec{}, false
		}
		v[i] = -ratio(whole(d.Rate[i]), whole(4)).Int64()
		if v[i] > fifth {
			v[i] = fifth
		}
		if v[i] < -fifth {
			v[i] = -fifth
		}
	}
	return v, true
}

// compare holds Step, and Dipole of what was handed in and of what it answered, against the chapter's steps. It answers whether Step came to something.
func compare(t *testing.T, d api.Drift, b api.Vec, tick int64) bool {
	t.Helper()
	f := &fixed.Flow{}
	got := bdot.Step(f, d, b, tick)
	want, ok := stepExact(d, b, tick)
	if got != want || f.Bad == ok {
		t.Fatalf("Step(%v, %v, %d): %v, bad %v; want %v, bad %v", d, b, tick, got, f.Bad, want, !ok)
	}
	for _, of := range []api.Drift{d, got} {
		f := &fixed.Flow{}
		dipole := bdot.Dipole(f, of)
		if v, ok := dipoleExact(of); dipole != v || f.Bad == ok {
			t.Fatalf("Dipole(%v): %v, bad %v; want %v, bad %v", of, dipole, f.Bad, v, !ok)
		}
	}
	return ok
}

// The steps here answer what was worked out outside, too.
func TestExactAgainstSamples(t *testing.T) {
	for _, c := range changes() {
		if rate, ok := rateExact(c.last, c.now, c.ahead, whole(c.after)); rate != c.want || ok == c.bad {
			t.Errorf("%s: %d, %v", c.name, rate, ok)
		}
	}
	for _, a := range answers() {
		d := api.Drift{On: true, Rate: api.Vec{a.rate}}
		if v, ok := dipoleExact(d); v != (api.Vec{a.want}) || !ok {
			t.Errorf("%d: %v, %v", a.rate, v, ok)
		}
	}
}

// dice: numbers that look as if they were thrown, the same ones in each run.
type dice uint64

func (d *dice) bits(n int) uint64 {
	*d = *d*6364136223846793005 + 1442695040888963407
	high := uint64(*d) >> 32
	*d = *d*6364136223846793005 + 1442695040888963407
	return (high<<32 | uint64(*d)>>32) >> (64 - n)
}

// number: of up to so many bits, of either sign.
func (d *dice) number(bits int) int64 {
	n := int64(d.bits(bits))
	if d.bits(1) == 1 {
		return -n
	}
	return n
}

func (d *dice) vector(bits int) api.Vec {
	return api.Vec{d.number(bits), d.number(bits), d.number(bits)}
}

func (d *dice) below(n int) int { return int(d.bits(31) % uint64(n)) }

// Each time from one field to the next, with numbers that leave room for what is worked of them.
func TestEachTimeToTheBit(t *testing.T) {
	thrown := dice(13)
	for after := int64(-3); after <= 10020; after++ {
		for _, bits := range []int{4, 20, 45, 54} {
			d := api.Drift{On: true, Tick: int64(thrown.bits(37)), Last: thrown.vector(bits), Rate: thrown.vector(bits)}
			if !compare(t, d, thrown.vector(bits), d.Tick+after) {
				t.Fatalf("nothing came of %v after %d", d, after)
			}
		}
	}
}

// Numbers of all sizes: some are to come to something, some not.
func TestAllSizesToTheBit(t *testing.T) {
	thrown := dice(88)
	good, all := 0, 0
	for bits := 1; bits <= 62; bits++ {
		for range 400 {
			d := api.Drift{On: thrown.below(16) > 0, Tick: thrown.number(62), Last: thrown.vector(bits), Rate: thrown.vector(1 + thrown.below(62))}
			for _, longest := range []int{100, 10100} {
				all++
				if compare(t, d, thrown.vector(bits), d.Tick+int64(thrown.below(longest))) {
					good++
				}
			}
		}
	}
	if bad := all - good; bad < all/40 || good < all/2 {
		t.Errorf("%d of %d came to something", good, all)
	}
}

// Small numbers, of which many quotients are halves.
func TestSmallOnesToTheBit(t *testing.T) {
	for _, after := range []int64{10, 16, 40, 400, 500, 1000, 2000, 2800, 4000, 6000, 8000, 10000} {
		for grown := int64(-30); grown <= 30; grown++ {
			for ahead := int64(-30); ahead <= 30; ahead++ {
				d := api.Drift{On: true, Last: api.Vec{0, 5, one}, Rate: api.Vec{ahead, -ahead, ahead}}
				compare(t, d, api.Vec{grown, 5 - grown, one - grown}, after)
			}
		}
	}
}

// edges: the ends of numbers and of integers, and what stands next to them.
func edges() []int64 {
	return []int64{
		least, -most - 1, -most, 1 - most, -most / 2, -46116860184273880, -one, -1, 0,
		1, one / 2, one, 46116860184273879, most / 2, most - 1, most, most + 1, greatest,
	}
}

func TestEdgesToTheBit(t *testing.T) {
	thrown, some := dice(521), edges()
	edge := func() int64 { return some[thrown.below(len(some))] }
	for range 60000 {
		// One part is of edges, the others are mostly plain, so that they don't hide what comes of it.
		place := thrown.below(3)
		d := api.Drift{On: thrown.below(8) > 0, Tick: edge(), Last: at(place, edge(), api.Vec{}), Rate: at(place, edge(), api.Vec{})}
		b := at(place, edge(), api.Vec{})
		compare(t, d, b, d.Tick+int64(thrown.below(20000)))
		compare(t, d, b, d.Tick+int64(thrown.below(30)))
		compare(t, d, at((place+1)%3, edge(), b), edge())
	}
}

// Each edge as tick and as Tick, and those next to both.
func TestTicksToTheBit(t *testing.T) {
	for _, from := range edges() {
		for _, to := range edges() {
			for _, after := range []int64{-10001, -10000, -1001, -10, -9, -1, 0, 1, 9, 10, 11, 1000, 9999, 10000, 10001} {
				d := third(from)
				compare(t, d, api.Vec{one, 2 * one, -3 * one}, to+after)
			}
		}
	}
}
