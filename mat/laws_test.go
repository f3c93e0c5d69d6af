package mat_test

import (
	"testing"

	"alidade/api"
	"alidade/fixed"
	"alidade/mat"
)

// How much more than all else of its row a diagonal has, at least; and by how much a square of a root may be off.
const (
	atLeast = one >> 10
	off     = one >> 34
)

// even answers a matrix of n that is the same on both sides of its diagonal, and whose diagonal has so much more than all else of its row comes to: its numbers are up to 1.
func (s *source) even(n int, more int64) (m api.Mat) {
	rest := (one - more) / int64(max(1, n-1))
	for i := range n {
		for j := range i {
			m[i][j] = s.below(2*rest+1) - rest
			// Many of the greatest, and many of nothing.
			switch s.below(8) {
			case 0:
				m[i][j] = rest
			case 1:
				m[i][j] = -rest
			case 2:
				m[i][j] = 0
			}
			m[j][i] = m[i][j]
		}
	}
	for i := range n {
		m[i][i] = 0
		m[i][i] = more + sizes(m[i])
	}
	return m
}

// sizes adds up a row's numbers, without their signs.
func sizes(r api.Row) (s int64) {
	for _, a := range r {
		s += max(a, -a)
	}
	return s
}

// checkSquare holds the square of a matrix's root against it.
func checkSquare(t *testing.T, m api.Mat, n int) {
	t.Helper()
	for i := range n {
		if m[i][i] > one || 2*m[i][i]-sizes(m[i]) < atLeast {
			t.Fatalf("row %d of %v is none of those", i, m)
		}
	}
	f := &fixed.Flow{}
	got := mat.Square(f, mat.Root(f, m, n), n)
	if f.Bad {
		t.Fatalf("%v, %d rows: bad", m, n)
	}
	for i := range got {
		for j := range got {
			if far := got[i][j] - m[i][j]; far < -off || far > off {
				t.Fatalf("%v, %d rows: %v, off by %d at %d, %d", m, n, got, far, i, j)
			}
		}
	}
}

func TestSquareOfRoot(t *testing.T) {
	s := &source{88675123}
	for n := 1; n <= 6; n++ {
		for range 8000 {
			checkSquare(t, s.even(n, atLeast), n)
			checkSquare(t, s.even(n, atLeast+1), n)
			checkSquare(t, s.even(n, atLeast+s.below(one-atLeast)), n)
		}
		checkSquare(t, s.even(n, one), n)
	}
}

// All numbers small: just as much on the diagonal as there must be.
func TestSquareOfRootOfTheLeast(t *testing.T) {
	for n := 1; n <= 6; n++ {
		for _, beside := range []int64{0, 1, -1, atLeast, -atLeast, one / 8, -one / 8, (one - atLeast) / 5, -(one - atLeast) / 5} {
			var m api.Mat
			for i := range n {
				for j := range n {
					m[i][j] = beside
				}
				m[i][i] = atLeast + int64(n-1)*max(beside, -beside)
			}
			checkSquare(t, m, n)
		}
	}
}

// A row that is solved and applied again is the row, where the diagonal has half of it all.
func TestSolveIsApplyBack(t *testing.T) {
	s := &source{2463534242}
	for n := 1; n <= 6; n++ {
		for range 2000 {
			m, f := s.even(n, one/2), &fixed.Flow{}
			b := s.row(40)
			got := mat.Apply(f, m, mat.Solve(f, mat.Root(f, m, n), b, n), n)
			for i := range n {
				if far := got[i] - b[i]; f.Bad || far < -off || far > off {
					t.Fatalf("%v and %v, %d rows: %v, bad %v", m, b, n, got, f.Bad)
				}
			}
		}
	}
}
