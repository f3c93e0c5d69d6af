package vec_test

import (
	"math/big"
	"testing"

	"alidade/api"
	"alidade/fixed"
	"alidade/vec"
)

// directions: towards all sides, from the shortest vectors that have a unit to the longest ones.
func directions(t *testing.T) []api.Vec {
	t.Helper()
	all := []api.Vec{
		{1 << 20}, {0, -1 << 20}, {0, 0, 1 << 20},
		// These are longer than their norms by nearly one: the farthest that cutting leads a unit from One.
		{1 << 20, 1024, 1024}, {-1 << 20, -1024, 1024}, {1024, 1 << 20, -1024},
		{most}, {0, -most}, {0, 0, most}, {most, 1 << 31, -1 << 31},
		{2658455991569831745, 2658455991569831745, -2658455991569831745},
		{one, one, one}, {-one, -one, -one}, {one, 1, 0}, {1, -1, one},
	}
	s := &source{362436069}
	for bits := 20; bits <= 62; bits++ {
		for i := range 120 {
			a := head(s.numbers(3, bits))
			if i%2 == 1 {
				// Near an axis, or beside it.
				a[bits%3] = 1 << 20 << (i % 42)
			}
			f := &fixed.Flow{}
			if n := vec.Norm(f, a); !f.Bad && n >= 1<<20 {
				all = append(all, a)
			}
		}
	}
	if len(all) < 2000 {
		t.Fatalf("%d directions alone", len(all))
	}
	return all
}

// P3.2, the first half.
func TestUnitIsOneLong(t *testing.T) {
	below, above := false, false
	for _, a := range directions(t) {
		f := &fixed.Flow{}
		u := vec.Unit(f, a)
		d := vec.Norm(f, u) - one
		if f.Bad || d > one>>18 || d < -one>>18 {
			t.Fatalf("the unit of %v, %v, is %d beside One, bad %v", a, u, d, f.Bad)
		}
		below, above = below || d < 0, above || d > 0
	}
	if !below || !above {
		t.Error("the directions ask too little")
	}
}

// A unit looks where its vector does: each part of both has the same sign, or is cut to nothing, and crossed they are nothing but what was rounded.
func TestUnitLooksAlong(t *testing.T) {
	for _, a := range directions(t) {
		f := &fixed.Flow{}
		u := vec.Unit(f, a)
		for i := range u {
			if (u[i] > 0 && a[i] < 0) || (u[i] < 0 && a[i] > 0) {
				t.Fatalf("the unit of %v is %v", a, u)
			}
		}
		if again := vec.Cross(f, u, vec.Unit(f, u)); f.Bad || vec.Norm(f, again) > 4 {
			t.Fatalf("the unit of %v turns by %v", a, again)
		}
	}
}

// slant: the sum of products of two vectors' parts, in units of 2^-80.
func slant(a, b api.Vec) *big.Int {
	sum := new(big.Int)
	for i := range a {
		sum.Add(sum, times(whole(a[i]), whole(b[i])))
	}
	return sum
}

// P3.2, the second half: once in exact values, once as Dot tells it.
func TestCrossedStandsUpright(t *testing.T) {
	all := directions(t)
	for i, a := range all {
		for _, step := range []int{0, 1, 2, 7, 101, 997} {
			f := &fixed.Flow{}
			u, v := vec.Unit(f, a), vec.Unit(f, all[(i+step)%len(all)])
			c := vec.Cross(f, u, v)
			for _, w := range []api.Vec{u, v} {
				if d := slant(c, w); d.CmpAbs(whole(1<<43)) > 0 {
					t.Fatalf("%v on %v: %v", c, w, d)
				}
				if d := vec.Dot(f, c, w); d > one>>37 || d < -one>>37 {
					t.Fatalf("%v on %v: %d", c, w, d)
				}
			}
			if f.Bad {
				t.Fatalf("bad at %v and %v", u, v)
			}
		}
	}
}

// A vector of zeros stands upright, too: sine and cosine together tell that what is crossed is as long as it must be.
func TestPartsAreOfOneAngle(t *testing.T) {
	all := directions(t)
	for i, a := range all {
		b := all[(i*31+7)%len(all)]
		f := &fixed.Flow{}
		sine, cosine := vec.Parts(f, a, b)
		d := vec.Norm(f, api.Vec{sine, cosine}) - one
		if f.Bad || sine < 0 || d > one>>17 || d < -one>>17 {
			t.Fatalf("of %v and %v: %d and %d, bad %v", a, b, sine, cosine, f.Bad)
		}
	}
}
