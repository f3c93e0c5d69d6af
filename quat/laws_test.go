package quat_test

import (
	"math/big"
	"testing"

	"alidade/api"
	"alidade/fixed"
	"alidade/quat"
)

// attitudes: all ways to stand, of both signs: about the axes, about anything, by next to nothing, by nearly half a turn (a w of nearly 0).
func attitudes(t *testing.T) []api.Quat {
	t.Helper()
	raw := []api.Quat{
		{one}, {0, one}, {0, 0, one}, {0, 0, 0, one},
		{one, one}, {0, one, one}, {one, 0, -one}, {0, 0, one, one}, {one, 0, 0, -one}, {0, -one, 0, one},
		{one, one, one, one}, {-one, one, one, one}, {one, -one, one, -one}, {-one, -one, -one, one},
		{one / 2, 0, 0, 0}, {0, 1, 1 << 39, -1}, {3, -5, 7, one}, {-3, 5, -7, -one},
	}
	s := &source{362436069}
	for i := range 1200 {
		q := api.Quat(s.numbers(4, 41))
		switch i % 4 {
		case 1:
			q[3] = s.number(1 + i%36)
		case 2:
			q[i/4%3] = s.number(1 + i%36)
		case 3:
			q[0], q[1], q[2], q[3] = s.number(1+i%36), s.number(1+i%36), s.number(1+i%36), one
		}
		raw = append(raw, q)
	}
	var all []api.Quat
	for _, q := range raw {
		f := &fixed.Flow{}
		if u := quat.Unit(f, q); !f.Bad {
			all = append(all, u, api.Quat{-u[0], -u[1], -u[2], -u[3]})
		}
	}
	if len(all) < 2200 {
		t.Fatalf("%d attitudes alone", len(all))
	}
	return all
}

// vectors: long enough that 2^-30 of them is not less than what is rounded, and not too long to be turned.
func vectors() []api.Vec {
	all := []api.Vec{
		{one}, {0, one}, {0, 0, one}, {-one}, {0, -one}, {0, 0, -one},
		{one, one, one}, {-one, one, -one}, {one, 1, -1}, {one >> 6}, {0, -one >> 6, 0}, {1 << 59, -1 << 59, 1 << 59},
	}
	s := &source{88675123}
	for bits := 36; bits <= 60; bits++ {
		for range 12 {
			v := api.Vec(s.numbers(3, bits))
			v[bits%3] |= one >> 6
			all = append(all, v)
		}
	}
	return all
}

// length: of parts, cut.
func length(parts ...int64) *big.Int {
	sum := new(big.Int)
	for _, part := range parts {
		sum.Add(sum, times(whole(part), whole(part)))
	}
	return sum.Sqrt(sum)
}

// apart: how far two are from each other.
func apart(a, b api.Vec) *big.Int {
	return length(a[0]-b[0], a[1]-b[1], a[2]-b[2])
}

// little tells whether d is at most 2^-30 of v.
func little(d *big.Int, v api.Vec) bool {
	most := new(big.Int).Rsh(length(v[:]...), 30)
	return d.CmpAbs(most) <= 0
}

// eachTurn does something with many pairs of an attitude and a vector, and asks for a good flow behind it.
func eachTurn(t *testing.T, do func(f *fixed.Flow, q api.Quat, v api.Vec)) {
	t.Helper()
	some := vectors()
	for i, q := range attitudes(t) {
		for step := range 12 {
			v := some[(i*7+step*29)%len(some)]
			f := &fixed.Flow{}
			do(f, q, v)
			if f.Bad {
				t.Fatalf("bad at %v and %v", q, v)
			}
		}
	}
}

func TestUnitIsOneLong(t *testing.T) {
	for _, q := range attitudes(t) {
		if d := new(big.Int).Sub(length(q[:]...), whole(one)); d.CmpAbs(whole(one>>36)) > 0 {
			t.Fatalf("%v is %v beside One", q, d)
		}
	}
}

func TestTurnKeepsLengths(t *testing.T) {
	eachTurn(t, func(f *fixed.Flow, q api.Quat, v api.Vec) {
		u := quat.Turn(f, q, v)
		if d := new(big.Int).Sub(length(u[:]...), length(v[:]...)); !little(d, v) {
			t.Fatalf("%v by %v is %v: longer by %v", v, q, u, d)
		}
	})
}

func TestTurnedBackIsWhatItWas(t *testing.T) {
	eachTurn(t, func(f *fixed.Flow, q api.Quat, v api.Vec) {
		there := quat.Turn(f, q, v)
		if back := quat.Turn(f, quat.Back(q), there); !little(apart(back, v), v) {
			t.Fatalf("%v by %v is %v, and back %v", v, q, there, back)
		}
		behind := quat.Turn(f, quat.Back(q), v)
		if back := quat.Turn(f, q, behind); !little(apart(back, v), v) {
			t.Fatalf("%v back by %v is %v, and there %v", v, q, behind, back)
		}
	})
}

func TestTwoTurnsAreOneByTheirProduct(t *testing.T) {
	all := attitudes(t)
	for i := range all {
		all[i], all[i*13%len(all)] = all[i*13%len(all)], all[i]
	}
	next := 0
	eachTurn(t, func(f *fixed.Flow, q api.Quat, v api.Vec) {
		p := all[next%len(all)]
		next++
		two, one := quat.Turn(f, p, quat.Turn(f, q, v)), quat.Turn(f, quat.Mul(f, p, q), v)
		if !little(apart(two, one), v) {
			t.Fatalf("%v by %v, then by %v: %v; by their product: %v", v, q, p, two, one)
		}
	})
}

// A turn about its own axis leaves it, whichever side of it is asked.
func TestTurnLeavesItsAxis(t *testing.T) {
	for _, q := range attitudes(t) {
		f := &fixed.Flow{}
		axis := api.Vec{q[0], q[1], q[2]}
		if got := quat.Turn(f, q, axis); f.Bad || apart(got, axis).Cmp(whole(16)) > 0 {
			t.Fatalf("%v turns its axis to %v", q, got)
		}
	}
}

func TestMatrixTurnsAsItsAttitude(t *testing.T) {
	eachTurn(t, func(f *fixed.Flow, q api.Quat, v api.Vec) {
		m, want := quat.Matrix(f, q), quat.Turn(f, q, v)
		var got api.Vec
		for i, row := range m {
			sum := new(big.Int)
			for j := range row {
				sum.Add(sum, times(whole(row[j]), whole(v[j])))
			}
			got[i] = rounded(sum, whole(one)).Int64()
		}
		if !little(apart(got, want), v) {
			t.Fatalf("%v by the matrix of %v: %v; want %v", v, q, got, want)
		}
	})
}

// near tells whether two differ by at most 2^-30.
func near(p, q api.Quat) bool {
	return length(p[0]-q[0], p[1]-q[1], p[2]-q[2], p[3]-q[3]).Cmp(whole(one>>30)) <= 0
}

// The attitude has two quaternions; what is answered is the one with a w of 0 or more, and of a w of about 0 either.
func TestFromMatrixOfMatrix(t *testing.T) {
	low := 0
	for _, q := range attitudes(t) {
		f := &fixed.Flow{}
		got := quat.FromMatrix(f, quat.Matrix(f, q))
		other := api.Quat{-q[0], -q[1], -q[2], -q[3]}
		same := q[3] >= 0 && near(got, q) || q[3] <= 0 && near(got, other)
		if q[3] < one>>30 && q[3] > -one>>30 {
			low++
			same = near(got, q) || near(got, other)
		}
		if f.Bad || got[3] < 0 || !same {
			t.Fatalf("of the matrix of %v: %v, bad %v", q, got, f.Bad)
		}
	}
	if low < 20 {
		t.Errorf("%d attitudes with a w of nearly 0 alone", low)
	}
}

// Up to half a turn, which is a vector of 4: what is longer is told by its other vector.
func TestToRodOfFromRod(t *testing.T) {
	all := []api.Vec{{}, {1}, {0, -1}, {4 * one}, {0, -4 * one}, {0, 0, 4*one - 1}, {one, -one, one}, {2 * one, -2 * one, 2 * one}}
	s := &source{123456789}
	for bits := 1; bits <= 41; bits++ {
		for range 60 {
			all = append(all, api.Vec(s.numbers(3, bits)))
		}
	}
	for _, p := range all {
		f := &fixed.Flow{}
		q := quat.FromRod(f, p)
		got := quat.ToRod(f, q)
		if f.Bad || q[3] < 0 || apart(got, p).Cmp(whole(one>>30)) > 0 {
			t.Fatalf("%v is %v, which is %v, bad %v", p, q, got, f.Bad)
		}
		other := quat.ToRod(f, api.Quat{-q[0], -q[1], -q[2], -q[3]})
		if q[3] != 0 && other != got {
			t.Fatalf("%v is %v, with the other sign %v", p, got, other)
		}
	}
}

// A small Rodrigues vector is near the angle of its turn: a turn about z by p takes x by p to -y.
func TestSmallRodIsItsAngle(t *testing.T) {
	for _, p := range []int64{one / 64, -one / 64, one / 256} {
		f := &fixed.Flow{}
		v := quat.Turn(f, quat.FromRod(f, api.Vec{0, 0, p}), api.Vec{one})
		if d := v[1] + p; f.Bad || d > one>>18 || d < -one>>18 {
			t.Errorf("by %d: %v", p, v)
		}
	}
}
