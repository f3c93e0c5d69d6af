package sun_test

import (
	"math"
	"math/big"
	"testing"

	"alidade/api"
	"alidade/fixed"
	"alidade/sun"
)

// looked answers where the sun stands at a right tick.
func looked(t *testing.T, tick int64) api.Vec {
	t.Helper()
	f := &fixed.Flow{}
	to := sun.Direction(f, tick)
	if f.Bad {
		t.Fatalf("Direction(%d) is bad", tick)
	}
	return to
}

// dark answers whether a place is shaded, in a flow that stays good.
func dark(t *testing.T, place, to api.Vec) bool {
	t.Helper()
	f := &fixed.Flow{}
	is := sun.Shaded(f, place, to)
	if f.Bad {
		t.Fatalf("Shaded(%v, %v) is bad", place, to)
	}
	return is
}

// squares: of a vector's length, in units of 2^-80.
func squares(v api.Vec) *big.Int { return along(v, v) }

// along: the sum of products of two vectors' parts, in units of 2^-80: nothing is rounded.
func along(a, b api.Vec) *big.Int {
	sum := new(big.Int)
	for i := range a {
		sum.Add(sum, times(whole(a[i]), whole(b[i])))
	}
	return sum
}

// P9.2, the first sentence: 2^-34 is 64 units.
func TestADirectionIsOneLong(t *testing.T) {
	least, greatest := times(whole(one-64), whole(one-64)), times(whole(one+64), whole(one+64))
	check := func(tick int64) {
		to := looked(t, tick)
		if n := squares(to); n.Cmp(least) < 0 || n.Cmp(greatest) > 0 {
			t.Fatalf("Direction(%d): %v isn't 1 long", tick, to)
		}
	}
	for tick := int64(0); tick <= last; tick += 786433 {
		check(tick)
	}
	for tick := int64(0); tick <= last; tick += day {
		check(tick)
	}
	for _, s := range sights() {
		check(s.tick)
	}
	check(last)
}

// suns: along the axes, slanting, and of many ticks; all of them are 1 long.
func suns(t *testing.T) []api.Vec {
	all := []api.Vec{
		{one}, {-one}, {0, one}, {0, -one}, {0, 0, one}, {0, 0, -one},
		{659706976666, 879609302221}, {-659706976666, 0, 879609302221}, {0, 659706976666, -879609302221},
		{634803333984, -634803333984, 634803333984}, {-634803333984, 634803333984, -634803333984},
	}
	for tick := int64(0); tick <= last; tick += 4*day + 12345 {
		all = append(all, looked(t, tick))
	}
	return all
}

// fars: how far from the middle of the Earth, from one unit on to where numbers nearly end. (At their very end a sun of somewhat more than 1 leads past it.)
func fars() []int64 {
	all := []int64{3, 1000, 6 * one, earth - 1, earth, earth + 1, 7 * one, 8 * one, 42 * one, 385 * one, 149598 * one, most - most>>8}
	for bits := range 62 {
		all = append(all, 1<<bits)
	}
	return all
}

// from answers a place that is so far from the middle of the Earth along the sun's direction (ahead of it, above 0), and beside it.
func from(to api.Vec, far int64, beside api.Vec) (place api.Vec) {
	for i := range place {
		place[i] = rounded(times(whole(far), whole(to[i])), whole(one)).Int64() + beside[i]
	}
	return place
}

// P9.2, the last sentence: behind the middle of the Earth it is always dark, and near to that line, too.
func TestBehindTheMiddleIsDark(t *testing.T) {
	s := &source{521288629}
	for _, to := range suns(t) {
		for _, far := range fars() {
			if place := from(to, -far, api.Vec{}); !dark(t, place, to) {
				t.Fatalf("%v, behind the middle, with the sun at %v", place, to)
			}
			// What is rounded in a direction tells of a side far less than this, but near the Earth's very middle it may tell on which side of it one stands.
			side := s.beside(to, float(s.below(earth-one/128)))
			if place := from(to, -far, side); far >= one && !dark(t, place, to) {
				t.Fatalf("%v, behind the Earth, with the sun at %v", place, to)
			}
		}
	}
}

// P9.2, the second sentence: on the sun's side nobody is shaded, in the Earth or out of it.
func TestTheSunsSideIsLit(t *testing.T) {
	s := &source{88675123}
	ahead := 0
	for _, to := range suns(t) {
		for _, far := range fars() {
			for _, wide := range []float64{0, float(s.below(earth)), float(earth), 2 * float(earth), 1000 * float(earth)} {
				side := s.beside(to, wide)
				place := from(to, far, side)
				// Three products are rounded: a place a unit or so ahead of the plane may be told to be behind it.
				if along(place, to).Cmp(times(whole(2), whole(one))) < 0 {
					continue
				}
				ahead++
				if dark(t, place, to) {
					t.Fatalf("%v, on the sun's side, with the sun at %v", place, to)
				}
			}
		}
	}
	if ahead < 100000 {
		t.Errorf("%d places alone", ahead)
	}
}

// Out of the Earth the sun's side is lit up to the plane that parts it from the other: what is rounded there doesn't tell.
func TestTheSunsSideIsLitUpToItsPlane(t *testing.T) {
	s := &source{123456789}
	ahead := 0
	for _, to := range suns(t) {
		for range 200 {
			place := from(to, s.below(3), s.beside(to, float(earth)+math.Ldexp(1, int(s.below(20))-37)))
			if along(place, to).Sign() < 0 || squares(place).Cmp(times(whole(earth+2), whole(earth+2))) < 0 {
				continue
			}
			ahead++
			if dark(t, place, to) {
				t.Fatalf("%v, on the sun's side, with the sun at %v", place, to)
			}
		}
	}
	if ahead < 10000 {
		t.Errorf("%d places alone", ahead)
	}
}

// Beside the shade it is light, however far behind the Earth.
func TestBesideTheShadeIsLit(t *testing.T) {
	s := &source{362436069}
	for _, to := range suns(t) {
		for _, far := range []int64{1, one, 7 * one, 42 * one, 385 * one, 100000 * one} {
			for _, wide := range []float64{6.3782, 6.5, 7, 42, 1000, 100000} {
				if place := from(to, -far, s.beside(to, wide)); dark(t, place, to) {
					t.Fatalf("%v, beside the shade, with the sun at %v", place, to)
				}
			}
		}
	}
}

// Once round the Earth, in a plane with the sun: the shade is as long as the Earth is wide, in the middle of the way behind it.
func TestOnceRoundTheEarth(t *testing.T) {
	s := &source{2463534242}
	for _, to := range suns(t) {
		for _, far := range []float64{6.6, 7, 8.3, 42} {
			side := s.beside(to, far)
			half := math.Asin(float(earth) / far)
			for i := range 100 {
				angle := (float64(i) + 0.37) * 2 * math.Pi / 100
				var place api.Vec
				for j := range place {
					place[j] = int64(-far*math.Cos(angle)*float64(to[j]) + math.Sin(angle)*float64(side[j]))
				}
				off := math.Abs(math.Remainder(angle, 2*math.Pi))
				if math.Abs(off-half) < 1e-6 {
					continue
				}
				if got := dark(t, place, to); got != (off < half) {
					t.Fatalf("%v far, %v behind the middle, with the sun at %v: %v", far, angle, to, got)
				}
			}
		}
	}
}

// books answers where the sun stands by reals alone, as almanacs tell it.
func books(tick int64) [3]float64 {
	d := float64(tick) / float64(day)
	rad := math.Pi / 180
	// Days behind the noon of January 1st of 2000.
	n := d + 9132
	g := (357.528 + 0.9856003*n) * rad
	l := (280.460+0.9856474*n)*rad + 1.915*rad*math.Sin(g) + 0.020*rad*math.Sin(2*g)
	e := (23.439 - 0.0000004*n) * rad
	return [3]float64{math.Cos(l), math.Cos(e) * math.Sin(l), math.Sin(e) * math.Sin(l)}
}

func TestTheSunStandsWhereBooksTell(t *testing.T) {
	for tick := int64(0); tick <= last; tick += day / 3 {
		to, want := looked(t, tick), books(tick)
		off := [3]float64{float(to[0]) - want[0], float(to[1]) - want[1], float(to[2]) - want[2]}
		// A ten-thousandth: a few hours' way would be ten times as much.
		if math.Sqrt(length2(off)) > 1e-4 {
			t.Fatalf("Direction(%d): %v; want %v", tick, to, want)
		}
	}
}

// The sun crosses the equator when almanacs say so, but for half an hour: in March to the north, in September to the south.
func TestTheSunCrossesTheEquator(t *testing.T) {
	const minute = 60000
	at := func(days, hour, minutes int64) int64 { return days*day + (hour-12)*60*minute + minutes*minute }
	for _, s := range []struct {
		name  string
		tick  int64
		north int64
	}{
		{"March 20th of 2025, 9:01", at(78, 9, 1), 1},
		{"September 22nd of 2025, 18:19", at(264, 18, 19), -1},
		{"March 20th of 2026, 14:46", at(365+78, 14, 46), 1},
		{"March 20th of 2027, 20:25", at(2*365+78, 20, 25), 1},
		{"March 20th of 2028, 2:17", at(3*365+79, 2, 17), 1},
		{"March 20th of 2029, 8:02", at(4*365+1+78, 8, 2), 1},
	} {
		ahead, behind := looked(t, s.tick-30*minute), looked(t, s.tick+30*minute)
		if ahead[2]*s.north >= 0 || behind[2]*s.north <= 0 {
			t.Errorf("%s: %v, an hour on %v", s.name, ahead, behind)
		}
	}
}
