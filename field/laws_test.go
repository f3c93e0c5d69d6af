package field_test

import (
	"math"
	"testing"

	"alidade/api"
	"alidade/field"
	"alidade/fixed"
)

// The bounds of P10.2: 6378 and 8378 km.
const (
	low  = one * 6378 / 1000
	high = one*8378/1000 + 1
)

// there answers the field at a place, turning with the Earth or in the sky, in a flow that stays good.
func there(t *testing.T, sky bool, place api.Vec, tick int64) api.Vec {
	t.Helper()
	work := field.Earth
	if sky {
		work = field.Sky
	}
	f := &fixed.Flow{}
	b := work(f, place, tick)
	if f.Bad {
		t.Fatalf("sky %v: of %v at %d: bad", sky, place, tick)
	}
	return b
}

func reals(v api.Vec) [3]float64 { return [3]float64{float(v[0]), float(v[1]), float(v[2])} }

// strengths remembers the least and the greatest of what it met.
type strengths struct {
	least, greatest float64
	count           int
}

// check: P10.2 at a place and a tick, in both axes.
func (s *strengths) check(t *testing.T, place api.Vec, tick int64) {
	t.Helper()
	for _, sky := range []bool{false, true} {
		b := length(reals(there(t, sky, place, tick)))
		if b < 3 || b > 90 {
			t.Fatalf("sky %v: of %v at %d: a field of %v", sky, place, tick, b)
		}
		if s.count == 0 || b < s.least {
			s.least = b
		}
		if b > s.greatest {
			s.greatest = b
		}
		s.count++
	}
}

func someTicks() []int64 {
	return []int64{0, 1, 43200000, day, 365*day + 12345, last / 2, 4*365*day + 54321, last - 1, last}
}

// P10.2, all over a net of longitudes and latitudes, at both bounds and between them.
func TestAFieldIsThere(t *testing.T) {
	seen := &strengths{}
	for i, tick := range someTicks() {
		for _, far := range []int64{low, low + (high-low)*int64(i+1)/10, high} {
			for lat := -90.0; lat <= 90; lat += 10 {
				for lon := float64(i); lon < 360; lon += 20 {
					seen.check(t, at(far, lat, lon), tick)
				}
			}
		}
	}
	// Books tell of some 22 to 67 on the ground, and of less than half of that at 8378 km.
	if seen.least < 5 || seen.least > 15 || seen.greatest < 60 || seen.greatest > 75 {
		t.Errorf("%+v", *seen)
	}
}

// at answers the place so far from the middle, but for a unit or so, at a latitude and a longitude in degrees.
func at(far int64, lat, lon float64) api.Vec {
	rad := math.Pi / 180
	v := [3]float64{math.Cos(lat*rad) * math.Cos(lon*rad), math.Cos(lat*rad) * math.Sin(lon*rad), math.Sin(lat * rad)}
	var place api.Vec
	for i := range v {
		place[i] = int64(math.Round(v[i] * float64(far)))
	}
	return place
}

// P10.2, at ticks and places that come as they may.
func TestAFieldIsThereAnywhere(t *testing.T) {
	s, seen := &source{123456789}, &strengths{}
	for range 20000 {
		seen.check(t, s.place(low+s.below(high-low+1)), s.tick())
	}
}

// P10.2, above the poles and near to them: on the axis, a unit beside it, some meters, some kilometers.
func TestAFieldIsThereAboveThePoles(t *testing.T) {
	s, seen := &source{362436069}, &strengths{}
	for _, tick := range someTicks() {
		seen.check(t, api.Vec{0, 0, high}, tick)
		seen.check(t, api.Vec{0, 0, -high}, tick)
		for _, z := range []int64{low, -low, 7 * one, -7 * one, 83 * one / 10, -83 * one / 10} {
			seen.check(t, api.Vec{0, 0, z}, tick)
			for bits := range 38 {
				beside := int64(1) << bits
				seen.check(t, api.Vec{s.sized(bits), s.sized(bits), z}, tick)
				seen.check(t, api.Vec{beside, 0, z}, tick)
				seen.check(t, api.Vec{0, -beside, z}, tick)
			}
		}
	}
	// Above the poles the field is as strong as it gets, nearly.
	if seen.least < 20 {
		t.Errorf("%+v", *seen)
	}
}

// legendre: the m-th slope of Legendre's polynomial of degree n, by its written-out sum.
func legendre(n, m int, x float64) float64 {
	sum := 0.0
	for k := 0; 2*k <= n-m; k++ {
		term := math.Pow(-1, float64(k)) * factorial(2*n-2*k) / (factorial(k) * factorial(n-k) * factorial(n-2*k-m))
		sum += term * math.Pow(x, float64(n-2*k-m))
	}
	return sum / math.Pow(2, float64(n))
}

func factorial(n int) float64 {
	if n == 0 {
		return 1
	}
	return float64(n) * factorial(n-1)
}

// potential answers that of which the field is the slope, as books tell it: with Schmidt's weights, in reals, and without an angle, so that a pole is like any other place.
func potential(p [3]float64, tick int64) float64 {
	const a = 6.3712
	r, years, sum := length(p), float64(tick)/float64(day)/365.25, 0.0
	for key, tenths := range atZero {
		n, m := int(key[0]), int(key[1])
		g := (float64(tenths[0]) + years*float64(inYear[key][0])) / 10000
		h := (float64(tenths[1]) + years*float64(inYear[key][1])) / 10000
		weight := 1.0
		if m > 0 {
			weight = math.Sqrt(2 * factorial(n-m) / factorial(n+m))
		}
		// The sine of the angle from the north, by m, and the cosine and the sine of m longitudes, all in one.
		round := complex(1, 0)
		for range m {
			round *= complex(p[0]/r, p[1]/r)
		}
		sum += math.Pow(a/r, float64(n+1)) * weight * legendre(n, m, p[2]/r) * (g*real(round) + h*imag(round))
	}
	return a * sum
}

// slope answers the field as books tell it: what the potential loses along each axis.
func slope(p [3]float64, tick int64) (b [3]float64) {
	const small = 1e-4
	for i := range p {
		ahead, behind := p, p
		ahead[i] += small
		behind[i] -= small
		b[i] = (potential(behind, tick) - potential(ahead, tick)) / (2 * small)
	}
	return b
}

// nearBooks holds a field against the books.
func nearBooks(t *testing.T, place api.Vec, tick int64, within float64) {
	t.Helper()
	got, want := reals(there(t, false, place, tick)), slope(reals(place), tick)
	if length([3]float64{got[0] - want[0], got[1] - want[1], got[2] - want[2]}) > within {
		t.Fatalf("of %v at %d: %v; want %v", place, tick, got, want)
	}
}

func TestTheFieldIsAsBooksTell(t *testing.T) {
	s := &source{521288629}
	for range 1000 {
		nearBooks(t, s.place(6*one+way+s.below(3*one)), s.tick(), 1e-6)
	}
	for _, s := range append(alongSamples(), slantSamples()...) {
		nearBooks(t, s.place, s.tick, 1e-6)
	}
}

// At the axis a meter isn't told from none, and what is cut of the way from it tells a little.
func TestTheFieldIsAsBooksTellAtTheAxis(t *testing.T) {
	s := &source{88675123}
	for bits := range 30 {
		for _, z := range []int64{low, -low, high, -high} {
			nearBooks(t, api.Vec{s.sized(bits), s.sized(bits), z}, s.tick(), 2e-4)
		}
	}
}

// The sky's field is the Earth's, turned: by the angle of the tick, in reals.
func TestTheSkysFieldIsTheEarthsTurned(t *testing.T) {
	s := &source{2463534242}
	for range 1000 {
		place, tick := s.place(low+s.below(high-low)), s.tick()
		// Some 1.0027 turns in a day.
		days := float64(tick) / float64(day)
		q := 5399947124839/float64(one) + 2*math.Pi*math.Mod(days, 1) + 18914669620/float64(one)*days
		p := turned(reals(place), -q)
		want := turned(slope(p, tick), q)
		got := reals(there(t, true, place, tick))
		if length([3]float64{got[0] - want[0], got[1] - want[1], got[2] - want[2]}) > 1e-6 {
			t.Fatalf("of %v at %d: %v; want %v", place, tick, got, want)
		}
	}
}

// turned answers v, turned about z.
func turned(v [3]float64, angle float64) [3]float64 {
	s, c := math.Sincos(angle)
	return [3]float64{v[0]*c - v[1]*s, v[0]*s + v[1]*c, v[2]}
}

// The example: at the equator's longitude 0, north some 27 microteslas.
func TestTheExample(t *testing.T) {
	place := api.Vec{one * 63712 / 10000}
	if b := there(t, false, place, 0); b[2] < 53*one/2 || b[2] > 55*one/2 {
		t.Error(b)
	}
}
