package triad_test

import (
	"math"
	"testing"

	"alidade/api"
	"alidade/fixed"
	"alidade/quat"
	"alidade/triad"
)

// A length is cut to a whole unit of 2^-40, and a direction is wrong by as much of itself: one of 2^-9 and longer has 2^-31 at most.
const shortest = 31

// pairs: two directions that are Apart, of many lengths: upright, about anyhow, just Apart, nearly opposite.
func pairs(t *testing.T) (all []pair) {
	t.Helper()
	raw := []pair{
		{{one}, {0, one}}, {{0, one}, {0, 0, one}}, {{0, 0, -one}, {one}}, {{one, one, one}, {-one, one}},
		{{one}, {cosine10, sine10}}, {{one}, {-cosine10, 0, sine10}}, {{0, -one}, {-sine10, -cosine10}},
		{{most}, {0, most}}, {{0, 0, most}, {0, 1 << shortest}}, {{1 << shortest}, {1, 1 << shortest}},
	}
	s := &source{88675123}
	for i := range 1500 {
		a, r := s.numbers(3, 41), s.numbers(3, 41)
		b := r
		if i%3 == 0 {
			b = tilted(a, r, 8)
		}
		if i%6 == 0 {
			b = []int64{-b[0], -b[1], -b[2]}
		}
		raw = append(raw, pair{long(a, shortest+i%30), long(b, shortest+i/5%30)})
	}
	for _, p := range raw {
		f := &fixed.Flow{}
		if triad.Apart(f, p[0], p[1]) && !f.Bad {
			all = append(all, p)
		}
	}
	if len(all) < 1200 {
		t.Fatalf("%d pairs alone", len(all))
	}
	return all
}

// real: what a number stands for.
func real(a int64) float64 { return float64(a) / float64(one) }

// unit: where v shows, in numbers.
func unit(v api.Vec) api.Vec {
	u := direction(v)
	var n api.Vec
	for i := range u {
		n[i] = int64(math.Round(u[i] * float64(one)))
	}
	return n
}

// long answers a's direction, 2^bits units long and somewhat more.
func long(a []int64, bits int) (v api.Vec) {
	for i, part := range direction(api.Vec(a)) {
		v[i] = int64(math.Round(part * 1.001 * float64(int64(1)<<bits)))
	}
	return v
}

// attitudes: all ways to stand.
func attitudes() (all []api.Quat) {
	s := &source{123456789}
	for _, q := range []api.Quat{{one}, {0, one}, {0, 0, one}, {0, 0, 0, one}, {one, one}, {0, -one, 0, one}, {one, one, one, one}, {-one, one, 1, 1}, {3, -5, 7, one}} {
		all = append(all, quat.Unit(&fixed.Flow{}, q))
	}
	for len(all) < 400 {
		f := &fixed.Flow{}
		if q := quat.Unit(f, api.Quat(s.numbers(4, 41))); !f.Bad {
			all = append(all, q)
		}
	}
	return all
}

// off: how far what q makes of the sky's direction is from the body's, both 1 long.
func off(f *fixed.Flow, q api.Quat, sky, body api.Vec) float64 {
	turned, v := quat.Turn(f, q, unit(sky)), direction(body)
	var sum float64
	for i := range v {
		d := real(turned[i]) - v[i]
		sum += d * d
	}
	return math.Sqrt(sum)
}

const little = 1.0 / (1 << 28)

func TestFirstComesToFirst(t *testing.T) {
	all := pairs(t)
	for i, sky := range all {
		for step := range 12 {
			body := all[(i*7+step*101)%len(all)]
			f := &fixed.Flow{}
			q := triad.Attitude(f, sky, body)
			if d := off(f, q, sky[0], body[0]); f.Bad || !(d <= little) {
				t.Fatalf("%v to %v: %v, which is off by %g, bad %v", sky, body, q, d, f.Bad)
			}
		}
	}
}

// The second one comes to the side of the first on which the body's second one is, in its plane.
func TestSecondComesToThePlane(t *testing.T) {
	all := pairs(t)
	for i, sky := range all {
		body := all[(i*31+17)%len(all)]
		f := &fixed.Flow{}
		q := triad.Attitude(f, sky, body)
		turned := direction(quat.Turn(f, q, unit(sky[1])))
		first, second := direction(body[0]), direction(body[1])
		up, there := cross(first, second), cross(first, turned)
		if above := dot(up, turned); f.Bad || math.Abs(above) > little || dot(up, there) <= 0 {
			t.Fatalf("%v to %v: %v, above the plane by %g", sky, body, q, above)
		}
	}
}

func dot(a, b [3]float64) float64 { return a[0]*b[0] + a[1]*b[1] + a[2]*b[2] }

func cross(a, b [3]float64) [3]float64 {
	return [3]float64{a[1]*b[2] - a[2]*b[1], a[2]*b[0] - a[0]*b[2], a[0]*b[1] - a[1]*b[0]}
}

// Of what was turned the attitude is the turn.
func TestTurnedPairsComeBackToBoth(t *testing.T) {
	ways := attitudes()
	n := 0
	for i, sky := range pairs(t) {
		for step := range 8 {
			turn := ways[(i*13+step*29)%len(ways)]
			f := &fixed.Flow{}
			body := pair{quat.Turn(f, turn, sky[0]), quat.Turn(f, turn, sky[1])}
			if f.Bad || !triad.Apart(f, body[0], body[1]) {
				continue // too long to be turned, or rounded to less than 10 degrees
			}
			n++
			q := triad.Attitude(f, sky, body)
			first, second := off(f, q, sky[0], body[0]), off(f, q, sky[1], body[1])
			if f.Bad || !(first <= little) || !(second <= little) {
				t.Fatalf("%v to %v: %v, off by %g and %g, bad %v", sky, body, q, first, second, f.Bad)
			}
			if d := differ(q, turn); !(d <= 8*little) {
				t.Fatalf("%v turned by %v: %v", sky, turn, q)
			}
		}
	}
	if n < 6000 {
		t.Errorf("%d pairs were turned alone", n)
	}
}

// differ: how far two attitudes are from each other, of either sign.
func differ(p, q api.Quat) float64 {
	var same, other float64
	for i := range p {
		plus, minus := real(p[i]+q[i]), real(p[i]-q[i])
		same, other = same+minus*minus, other+plus*plus
	}
	return math.Sqrt(min(same, other))
}
