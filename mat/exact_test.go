package mat_test

import (
	"math"
	"math/big"
	"testing"

	"alidade/api"
	"alidade/fixed"
)

// The chapter's steps, worked with integers of any size, and with nothing of the program.

// exact is a flow over integers of any size.
type exact struct {
	bad bool
}

type (
	list  []*big.Int
	table []list
)

func whole(a int64) *big.Int { return big.NewInt(a) }

func times(a, b *big.Int) *big.Int { return new(big.Int).Mul(a, b) }

// kept answers a; the flow goes bad where it is no number.
func (e *exact) kept(a *big.Int) *big.Int {
	if a.CmpAbs(whole(most)) > 0 {
		e.bad = true
	}
	return a
}

func (e *exact) add(a, b *big.Int) *big.Int { return e.kept(new(big.Int).Add(a, b)) }

func (e *exact) sub(a, b *big.Int) *big.Int { return e.kept(new(big.Int).Sub(a, b)) }

func (e *exact) mul(a, b *big.Int) *big.Int {
	return e.kept(rounded(times(e.kept(a), e.kept(b)), whole(one)))
}

func (e *exact) div(a, b *big.Int) *big.Int {
	e.kept(a)
	e.kept(b)
	if b.Sign() == 0 {
		e.bad = true
		return b
	}
	return e.kept(rounded(times(a, whole(one)), b))
}

// rounded: (2 |n| + |d|) / (2 |d|), cut, with the sign of n / d.
func rounded(n, d *big.Int) *big.Int {
	sign := int64(n.Sign() * d.Sign())
	up, down := new(big.Int).Abs(n), new(big.Int).Abs(d)
	up.Add(up.Lsh(up, 1), down)
	up.Quo(up, down.Lsh(down, 1))
	return times(up, whole(sign))
}

// pivot: the root of what is left on the diagonal, cut.
func (e *exact) pivot(s *big.Int) *big.Int {
	e.kept(s)
	if s.Sign() <= 0 {
		e.bad = true
		return whole(0)
	}
	square := times(s, whole(one))
	return e.kept(square.Sqrt(square))
}

// root takes each column's products off all that is behind it as soon as it is there: the same differences as row by row.
func (e *exact) root(m table, n int) table {
	left, l := zeros(n), zeros(n)
	for i := range n {
		copy(left[i], m[i][:i+1])
	}
	for k := 0; k < n && !e.bad; k++ {
		l[k][k] = e.pivot(left[k][k])
		for i := k + 1; i < n; i++ {
			l[i][k] = e.div(left[i][k], l[k][k])
		}
		for i := k + 1; i < n; i++ {
			for j := k + 1; j <= i; j++ {
				left[i][j] = e.sub(e.kept(left[i][j]), e.mul(l[i][k], l[j][k]))
			}
		}
	}
	return l
}

func (e *exact) solve(l table, b list, n int) list {
	y, x := zeros(n)[0], zeros(n)[0]
	for i := range y {
		y[i] = e.kept(b[i])
	}
	for k := 0; k < n && !e.bad; k++ {
		y[k] = e.div(y[k], l[k][k])
		for i := k + 1; i < n; i++ {
			y[i] = e.sub(y[i], e.mul(l[i][k], y[k]))
		}
	}
	for i := n - 1; i >= 0 && !e.bad; i-- {
		for k := i + 1; k < n; k++ {
			y[i] = e.sub(y[i], e.mul(l[k][i], x[k]))
		}
		x[i] = e.div(y[i], l[i][i])
	}
	return x
}

func (e *exact) square(l table, n int) table {
	m := zeros(n)
	for i := range n {
		m[i] = e.apply(l, l[i], n)
	}
	return m
}

func (e *exact) apply(m table, b list, n int) list {
	x := zeros(n)[0]
	for k := range n {
		for i := range n {
			x[i] = e.add(x[i], e.mul(m[i][k], b[k]))
		}
	}
	return x
}

func zeros(n int) (t table) {
	for i := range n {
		t = append(t, nil)
		for range n {
			t[i] = append(t[i], whole(0))
		}
	}
	return t
}

func wide(r api.Row) (a list) {
	for _, part := range r {
		a = append(a, whole(part))
	}
	return a
}

// wanted answers what an op of numbers is to answer, and whether its flow is to be bad.
func wanted(o op, m api.Mat, b api.Row, n int) (a api.Mat, bad bool) {
	e := &exact{}
	var handed table
	for _, row := range m {
		handed = append(handed, wide(row))
	}
	worked := o.exact(e, handed, wide(b), n)
	if e.bad {
		return api.Mat{}, true
	}
	for i, row := range worked {
		for j, part := range row {
			a[i][j] = part.Int64()
		}
	}
	return a, false
}

// compare holds an op against its exact steps, and answers whether it came to something.
func compare(t *testing.T, o op, m api.Mat, b api.Row, n int) bool {
	t.Helper()
	f := &fixed.Flow{}
	got := o.do(f, m, b, n)
	want, bad := wanted(o, m, b, n)
	if got != want || f.Bad != bad {
		t.Fatalf("%s of %v and %v, %d rows: %v, bad %v; want %v, bad %v", o.name, m, b, n, got, f.Bad, want, bad)
	}
	return !bad
}

// source answers numbers that look like any, always the same ones.
type source struct {
	state uint64
}

func (s *source) next() uint64 {
	s.state ^= s.state << 13
	s.state ^= s.state >> 7
	s.state ^= s.state << 17
	return s.state
}

// below: an integer from 0 up to below n.
func (s *source) below(n int64) int64 { return int64(s.next() >> 1 % uint64(n)) }

// number: of up to so many bits, of either sign.
func (s *source) number(bits int) int64 {
	n := int64(s.next() >> (64 - bits))
	if s.next()>>20&1 == 1 {
		return -n
	}
	return n
}

func (s *source) row(bits int) (r api.Row) {
	for i := range r {
		r[i] = s.number(bits)
	}
	return r
}

// matrix: any numbers of up to so many bits, with so much more on the diagonal.
func (s *source) matrix(bits int, more int64) (m api.Mat) {
	for i := range m {
		m[i] = s.row(bits)
		m[i][i] += more
	}
	return m
}

// Numbers about 1: most come to something, and not all of them.
func TestToTheBit(t *testing.T) {
	for _, o := range ops() {
		s := &source{88172645463325252}
		good, all := 0, 0
		for range 3000 {
			for n := 1; n <= 6; n++ {
				more := s.below(4 * one)
				if o.name == "Solve" && all%3 == 0 {
					more = 0
				}
				if all++; compare(t, o, s.matrix(40, more), s.row(41), n) {
					good++
				}
			}
		}
		if good < all/2 {
			t.Errorf("%s: %d of %d came to something", o.name, good, all)
		}
	}
}

// Numbers of one size, from the least to the greatest.
func TestSizesToTheBit(t *testing.T) {
	for _, o := range ops() {
		s := &source{2463534242}
		good, all := 0, 0
		for bits := 1; bits <= 62; bits++ {
			for range 10 {
				for n := 1; n <= 6; n++ {
					if all++; compare(t, o, s.matrix(bits, 1<<bits-1<<(bits-1)), s.row(bits), n) {
						good++
					}
				}
			}
		}
		if good < all/20 || good == all {
			t.Errorf("%s: %d of %d came to something", o.name, good, all)
		}
	}
}

// A row of another size than the matrix.
func TestRowsOfOtherSizesToTheBit(t *testing.T) {
	s := &source{362436069}
	for _, o := range ops() {
		good, all := 0, 0
		for range 2000 {
			for n := 1; n <= 6; n++ {
				if all++; compare(t, o, s.matrix(39, one), s.row(58+int(s.below(5))), n) {
					good++
				}
			}
		}
		if o.row && (good < all/20 || good > all-all/20) {
			t.Errorf("%s: %d of %d came to something", o.name, good, all)
		}
	}
}

// edges: the ends of numbers, of integers, and what stands next to them and to 1.
func edges() []int64 {
	return []int64{
		math.MinInt64, -most - 1, -most, -most / 2, -one - 1, -one, 1 - one, -1 << 20, -1,
		0, 1, 2, 1 << 20, one / 2, one - 1, one, one + 1, 2 * one, 1 << 51, 1<<51 + 1, most / 2, most - 1, most, most + 1, math.MaxInt64,
	}
}

func TestEdgesToTheBit(t *testing.T) {
	for _, o := range ops() {
		s, ends := &source{521288629}, edges()
		good := 0
		for i := range 12000 {
			// Few of many edges together come to something: mostly they are all small.
			few := ends[3:18]
			if i%3 == 0 {
				few = ends
			}
			pick := func() int64 { return few[s.below(int64(len(few)))] }
			var m api.Mat
			var b api.Row
			for i := range m {
				for j := range m {
					// Zeros leave roots among them.
					if s.below(2) == 0 || i == j {
						m[i][j] = pick()
					}
				}
				b[i] = pick()
			}
			if compare(t, o, m, b, 1+i%6) {
				good++
			}
		}
		if good < 500 {
			t.Errorf("%s: %d came to something", o.name, good)
		}
	}
}
