package orbit_test

import (
	"math"
	"testing"

	"alidade/api"
	"alidade/fixed"
	"alidade/orbit"
)

// By how much the laws may be off, as reals. (Floats are off by less than 2^-40 in all that is worked here at one tick.)
const (
	keplerOff = 1.0 / (1 << 34)
	placeOff  = 1.0 / (1 << 24)
)

func float(a int64) float64 { return float64(a) / float64(one) }

func placed(t *testing.T, o api.Orbit, tick int64) [3]float64 {
	t.Helper()
	f := &fixed.Flow{}
	p := orbit.Place(f, o, tick)
	if f.Bad {
		t.Fatalf("Place(%+v, %d) is bad", o, tick)
	}
	return [3]float64{float(p[0]), float(p[1]), float(p[2])}
}

func dot(a, b [3]float64) float64 { return a[0]*b[0] + a[1]*b[1] + a[2]*b[2] }

// checkKepler holds P8.2's first sentence, with the real sine.
func checkKepler(t *testing.T, m, e int64) {
	t.Helper()
	f := &fixed.Flow{}
	x := orbit.Kepler(f, m, e)
	off := float(x-m) - float(e)*math.Sin(float(x))
	if f.Bad || math.Abs(off) > keplerOff {
		t.Fatalf("Kepler(%d, %d): %d, off by %v, bad %v", m, e, x, off, f.Bad)
	}
}

func TestKeplersXIsASolution(t *testing.T) {
	s := &source{521288629}
	for i := range int64(41) {
		e := mostE * i / 40
		for quarter := int64(0); quarter <= 4; quarter++ {
			for beside := int64(-2); beside <= 2; beside++ {
				if m := quarter*h + beside; 0 <= m && m <= full {
					checkKepler(t, m, e)
				}
			}
		}
		for m := i; m <= full; m += full / 499 {
			checkKepler(t, m, e)
		}
	}
	for range 20000 {
		checkKepler(t, s.from(0, full), s.from(0, mostE))
	}
}

// eachPlace does something with many right elements and ticks, those at the edges of the words among them.
func eachPlace(do func(o api.Orbit, tick int64)) {
	for _, s := range samples() {
		do(s.o, s.tick)
		do(s.o, 0)
		do(s.o, last)
	}
	for _, e := range edges() {
		if e.right {
			for _, tick := range []int64{0, 1, e.o.At, last} {
				do(e.o, tick)
			}
		}
	}
	s := &source{88675123}
	for range 4000 {
		o := s.right()
		do(o, s.from(0, last))
		do(o, o.At)
	}
}

// The second sentence: a body at Kepler's x is A (1 - E cos x) far.
func TestPlaceIsAsFarAsTheEllipse(t *testing.T) {
	eachPlace(func(o api.Orbit, tick int64) {
		p := placed(t, o, tick)
		x := (&exact{}).way(o, tick).x.Int64()
		far, want := math.Sqrt(dot(p, p)), float(o.A)*(1-float(o.E)*math.Cos(float(x)))
		if math.Abs(far-want) > placeOff {
			t.Fatalf("Place(%+v, %d): %v, %v far; want %v", o, tick, p, far, want)
		}
		least, greatest := float(o.A)*(1-float(o.E)), float(o.A)*(1+float(o.E))
		if far < least-placeOff || far > greatest+placeOff {
			t.Fatalf("Place(%+v, %d): %v far, of %v to %v", o, tick, far, least, greatest)
		}
	})
}

// upright: what stands upright on the plane of a node's angle and I, 1 long.
func upright(node, i float64) [3]float64 {
	return [3]float64{math.Sin(i) * math.Sin(node), -math.Sin(i) * math.Cos(node), math.Cos(i)}
}

// The third sentence.
func TestPlaceStandsInItsPlane(t *testing.T) {
	eachPlace(func(o api.Orbit, tick int64) {
		node := o.Node
		if tick != o.At {
			node = (&exact{}).way(o, tick).node.Int64()
		}
		p := placed(t, o, tick)
		if off := dot(p, upright(float(node), float(o.I))); math.Abs(off) > placeOff {
			t.Fatalf("Place(%+v, %d): %v beside its plane", o, tick, off)
		}
	})
}

// books answers where a body is by reals alone, as books tell it, and with nothing of the chapter but its numbers.
func books(o api.Orbit, tick int64) [3]float64 {
	a, e, i := float(o.A), float(o.E), float(o.I)
	d := float64(tick-o.At) / float64(day)
	n := math.Sqrt(float(3271636820114455529) / (a * a * a))
	r := math.Sqrt(1 - e*e)
	k := float(1785540935) * math.Pow(float(7012835795048)/(a*r*r), 2) * n
	s2 := math.Sin(i) * math.Sin(i)
	node := float(o.Node) - k*math.Cos(i)*d
	peri := float(o.Peri) + k*(2-2.5*s2)*d
	m := math.Mod(float(o.M)+(n+k*r*(1-1.5*s2))*d, 2*math.Pi)
	x := m
	for range 60 {
		x = m + e*math.Sin(x)
	}
	// The angle from the node, and how far: the other way to tell a place in its plane.
	far := a * (1 - e*math.Cos(x))
	angle := peri + math.Atan2(r*math.Sin(x), math.Cos(x)-e)
	u, v := far*math.Cos(angle), far*math.Sin(angle)
	return [3]float64{
		u*math.Cos(node) - v*math.Cos(i)*math.Sin(node),
		u*math.Sin(node) + v*math.Cos(i)*math.Cos(node),
		v * math.Sin(i),
	}
}

// What is rounded in the rates of a day grows with the days; in five years it comes to a few meters.
func TestPlaceIsWhatBooksTell(t *testing.T) {
	eachPlace(func(o api.Orbit, tick int64) {
		p, want := placed(t, o, tick), books(o, tick)
		days := math.Abs(float64(tick-o.At)) / float64(day)
		between := [3]float64{p[0] - want[0], p[1] - want[1], p[2] - want[2]}
		if off := math.Sqrt(dot(between, between)); off > placeOff/4+days/(1<<29) {
			t.Fatalf("Place(%+v, %d): %v, %v beside %v", o, tick, p, off, want)
		}
	})
}

// One turn is 2 pi: the body is where it was, but for how the Earth turns its orbit and what a tick is cut to.
func TestATurnLeadsBack(t *testing.T) {
	for _, a := range []int64{lowest, 7 * one, 15 * one / 2, highest} {
		turn := 2 * math.Pi * math.Sqrt(math.Pow(float(a), 3)/float(3271636820114455529)) * float64(day)
		o := api.Orbit{A: a, I: h}
		from, behind := placed(t, o, 0), placed(t, o, int64(turn))
		half := placed(t, o, int64(turn/2))
		if dot(from, behind) < 0.999*dot(from, from) || dot(from, half) > -0.999*dot(from, from) {
			t.Errorf("A %d, a turn of %v: %v, half of it on %v, then %v", a, turn, from, half, behind)
		}
	}
}
