package orbit_test

import (
	"math"
	"math/big"
	"testing"

	"alidade/api"
	"alidade/fixed"
	"alidade/orbit"
)

// The chapter's steps, worked with integers of any size, and with nothing of the program.

// exact is a flow over integers of any size.
type exact struct {
	bad bool
}

func whole(a int64) *big.Int { return big.NewInt(a) }

func times(a, b *big.Int) *big.Int { return new(big.Int).Mul(a, b) }

// kept answers a; the flow goes bad where it is no number.
func (e *exact) kept(a *big.Int) *big.Int {
	if a.CmpAbs(whole(most)) > 0 {
		e.bad = true
	}
	return a
}

func (e *exact) add(a, b *big.Int) *big.Int { return e.kept(new(big.Int).Add(a, b)) }

func (e *exact) sub(a, b *big.Int) *big.Int { return e.kept(new(big.Int).Sub(a, b)) }

func (e *exact) mul(a, b *big.Int) *big.Int { return e.kept(rounded(times(a, b), whole(one))) }

func (e *exact) div(a, b *big.Int) *big.Int { return e.part(a, whole(one), b) }

func (e *exact) part(a, p, q *big.Int) *big.Int {
	if q.Sign() == 0 {
		e.bad = true
		return whole(0)
	}
	return e.kept(rounded(times(a, p), q))
}

func (e *exact) sqrt(a *big.Int) *big.Int {
	if a.Sign() < 0 {
		e.bad = true
		return whole(0)
	}
	return new(big.Int).Sqrt(times(a, whole(one)))
}

// rounded: (2 |n| + |d|) / (2 |d|), cut, with the sign of n / d.
func rounded(n, d *big.Int) *big.Int {
	sign := int64(n.Sign() * d.Sign())
	up, down := new(big.Int).Abs(n), new(big.Int).Abs(d)
	up.Add(up.Lsh(up, 1), down)
	up.Quo(up, down.Lsh(down, 1))
	return times(up, whole(sign))
}

// series: v, with d = 2n (2n + odd).
func (e *exact) series(t *big.Int, odd int64) *big.Int {
	u, v := e.mul(t, t), whole(one)
	for n := int64(10); n >= 1; n-- {
		v = e.sub(whole(one), e.part(e.mul(u, v), whole(1), whole(2*n*(2*n+odd))))
	}
	return v
}

// wave: the sine of an angle; with a quarter more, its cosine.
func (e *exact) wave(a *big.Int, more int64) *big.Int {
	r := new(big.Int).Mod(e.kept(a), whole(full))
	quarter, t := new(big.Int).QuoRem(r, whole(h), new(big.Int))
	k := (quarter.Int64() + more) % 4
	v := e.series(t, 1-2*(k%2))
	if k%2 == 0 {
		v = e.mul(t, v)
	}
	if k >= 2 {
		v.Neg(v)
	}
	return v
}

func (e *exact) sin(a *big.Int) *big.Int { return e.wave(a, 0) }

func (e *exact) cos(a *big.Int) *big.Int { return e.wave(a, 1) }

func (e *exact) days(tick int64) *big.Int {
	return e.part(whole(one), whole(tick), whole(86400000))
}

func between(low, a, high int64) bool { return low <= a && a <= high }

func rightExact(o api.Orbit) bool {
	e := &exact{}
	e.kept(whole(o.A))
	near := e.mul(whole(o.A), new(big.Int).Sub(whole(one), whole(o.E)))
	far := e.mul(whole(o.A), new(big.Int).Add(whole(one), whole(o.E)))
	return between(0, o.E, 109951162777) && !e.bad &&
		near.Cmp(whole(7232738120604)) >= 0 && far.Cmp(whole(9211859050600)) <= 0 &&
		between(0, o.I, 3454217652358) &&
		between(-full, o.Node, full) && between(-full, o.Peri, full) && between(-full, o.M, full) &&
		between(0, o.At, 157766400000)
}

func (e *exact) kepler(m *big.Int, ecc int64) *big.Int {
	if !between(0, ecc, 109951162777) {
		e.bad = true
		return whole(0)
	}
	x, by := e.kept(m), whole(ecc)
	for range 6 {
		up := e.sub(e.sub(x, e.mul(by, e.sin(x))), m)
		x = e.sub(x, e.div(up, e.sub(whole(one), e.mul(by, e.cos(x)))))
	}
	return x
}

// way: the angles of an orbit at a tick, x being Kepler's.
type way struct {
	node, peri, x *big.Int
}

func (e *exact) way(o api.Orbit, tick int64) way {
	a, ecc := whole(o.A), whole(o.E)
	d := e.sub(e.days(tick), e.days(o.At))
	n := e.div(e.sqrt(e.div(whole(3271636820114455529), a)), a)
	r := e.sqrt(e.sub(whole(one), e.mul(ecc, ecc)))
	k := e.div(whole(7012835795048), e.mul(a, e.mul(r, r)))
	k = e.mul(e.mul(whole(1785540935), e.mul(k, k)), n)
	s, c := e.sin(whole(o.I)), e.cos(whole(o.I))
	t := e.mul(s, s)
	node := e.sub(whole(o.Node), e.mul(e.mul(k, c), d))
	peri := e.add(whole(o.Peri), e.mul(e.mul(k, e.sub(whole(2*one), e.part(t, whole(5), whole(2)))), d))
	w := e.mul(e.mul(k, r), e.sub(whole(one), e.part(t, whole(3), whole(2))))
	m := e.add(whole(o.M), e.mul(e.add(n, w), d))
	return way{node, peri, e.kepler(m.Mod(m, whole(full)), o.E)}
}

func (e *exact) place(o api.Orbit, tick int64) api.Vec {
	if !rightExact(o) || !between(0, tick, 157766400000) {
		e.bad = true
		return api.Vec{}
	}
	at := e.way(o, tick)
	ecc := whole(o.E)
	r := e.sqrt(e.sub(whole(one), e.mul(ecc, ecc)))
	s, c := e.sin(whole(o.I)), e.cos(whole(o.I))
	u := e.mul(whole(o.A), e.sub(e.cos(at.x), ecc))
	v := e.mul(e.mul(whole(o.A), r), e.sin(at.x))
	a := e.sub(e.mul(u, e.cos(at.peri)), e.mul(v, e.sin(at.peri)))
	b := e.add(e.mul(u, e.sin(at.peri)), e.mul(v, e.cos(at.peri)))
	x := e.sub(e.mul(a, e.cos(at.node)), e.mul(e.mul(b, c), e.sin(at.node)))
	y := e.add(e.mul(a, e.sin(at.node)), e.mul(e.mul(b, c), e.cos(at.node)))
	return api.Vec{x.Int64(), y.Int64(), e.mul(b, s).Int64()}
}

// source answers integers, always the same ones.
type source struct {
	state uint64
}

func (s *source) word() uint64 {
	s.state ^= s.state << 13
	s.state ^= s.state >> 7
	s.state ^= s.state << 17
	return s.state
}

// from answers an integer of low to high, both of them and what stands beside them more often than others.
func (s *source) from(low, high int64) int64 {
	switch s.word() % 16 {
	case 0:
		return low
	case 1:
		return high
	case 2:
		return min(low+1, high)
	case 3:
		return max(high-1, low)
	}
	return low + int64(s.word()%uint64(high-low+1))
}

// angle answers one of -4H to 4H, whole quarters more often than others.
func (s *source) angle() int64 {
	if s.word()%4 == 0 {
		return h * (int64(s.word()%9) - 4)
	}
	return s.from(-full, full)
}

// widest answers the least and the greatest A of right elements with an e.
func widest(e int64) (least, greatest int64) {
	limit := func(bound, part int64, step int64) int64 {
		a := rounded(times(whole(bound), whole(one)), whole(part)).Int64() - 4*step
		for !rightExact(api.Orbit{A: a, E: e}) {
			a += step
		}
		return a
	}
	return limit(7232738120604, one-e, 1), limit(9211859050600, one+e, -1)
}

// right answers right elements, many of them at the edges.
func (s *source) right() api.Orbit {
	e := s.from(0, mostE)
	least, greatest := widest(e)
	i := s.from(0, 2*h)
	if s.word()%8 == 0 {
		i = h
	}
	return elements(s.from(least, greatest), e, i, s.angle(), s.angle(), s.angle(), s.from(0, last))
}

// compareKepler holds Kepler against the chapter's steps.
func compareKepler(t *testing.T, m, ecc int64) {
	t.Helper()
	f, e := &fixed.Flow{}, &exact{}
	got, want := orbit.Kepler(f, m, ecc), e.kepler(whole(m), ecc)
	if e.bad {
		want = whole(0)
	}
	if got != want.Int64() || f.Bad != e.bad {
		t.Fatalf("Kepler(%d, %d): %d, bad %v; want %v, bad %v", m, ecc, got, f.Bad, want, e.bad)
	}
}

// comparePlace holds Right and Place against the chapter's steps.
func comparePlace(t *testing.T, o api.Orbit, tick int64) {
	t.Helper()
	if got := orbit.Right(o); got != rightExact(o) {
		t.Fatalf("Right(%+v): %v", o, got)
	}
	f, e := &fixed.Flow{}, &exact{}
	got, want := orbit.Place(f, o, tick), e.place(o, tick)
	if got != want || f.Bad != e.bad {
		t.Fatalf("Place(%+v, %d): %v, bad %v; want %v, bad %v", o, tick, got, f.Bad, want, e.bad)
	}
}

func TestKeplerAgainstExact(t *testing.T) {
	s := &source{88172645463325252}
	for _, ecc := range []int64{0, 1, 2, one / 100, one / 20, mostE - 1, mostE} {
		for k := int64(-5); k <= 5; k++ {
			for beside := int64(-2); beside <= 2; beside++ {
				compareKepler(t, k*h+beside, ecc)
			}
		}
	}
	for range 4000 {
		compareKepler(t, s.from(0, full), s.from(0, mostE))
		compareKepler(t, s.from(-most, most), s.from(0, mostE))
	}
}

// Near the end of the numbers a step may leave them, and of other angles there it doesn't.
func TestKeplerAgainstExactNearTheEnd(t *testing.T) {
	for _, ecc := range []int64{0, 1, 12345678, one / 20, mostE} {
		for i := range int64(64) {
			m := most - i*(one>>8)
			compareKepler(t, m, ecc)
			compareKepler(t, -m, ecc)
		}
	}
}

func TestRightAgainstExactAtTheBounds(t *testing.T) {
	s := &source{2463534242}
	for range 4000 {
		e := s.from(0, mostE)
		least, greatest := widest(e)
		for _, a := range []int64{least, greatest} {
			for beside := int64(-2); beside <= 2; beside++ {
				o := api.Orbit{A: a + beside, E: e}
				if got := orbit.Right(o); got != rightExact(o) {
					t.Fatalf("Right(%+v): %v", o, got)
				}
			}
		}
	}
}

func TestPlaceAgainstExact(t *testing.T) {
	s := &source{123456789}
	for i := range 6000 {
		o := s.right()
		tick := s.from(0, last)
		if i%8 == 0 {
			tick = o.At
		}
		if !orbit.Right(o) {
			t.Fatalf("%+v isn't right", o)
		}
		comparePlace(t, o, tick)
	}
}

// A whole turn, and more, step by step.
func TestPlaceAgainstExactAllTheWay(t *testing.T) {
	for _, s := range samples() {
		for tick := int64(0); tick < 7000000; tick += 99991 {
			comparePlace(t, s.o, tick)
		}
	}
}

// strange: integers that are right in few places, or in none.
func strange() []int64 {
	return []int64{
		0, 1, -1, one, -one, mostE, mostE + 1, h, 2 * h, 2*h + 1, full, full + 1, -full, -full - 1,
		lowest, highest, -lowest, last, last + 1, 1 << 61, most - 1, most, most + 1, -most, -most - 1,
		math.MaxInt64, math.MaxInt64 - 1, math.MinInt64, math.MinInt64 + 1,
	}
}

// Whatever is handed in: a call ends, and answers what the chapter says.
func TestStrangeIntegersInEachField(t *testing.T) {
	good := samples()[len(samples())-1]
	for _, a := range strange() {
		for field := range 7 {
			comparePlace(t, changed(good.o, field, a), good.tick)
		}
		comparePlace(t, good.o, a)
	}
}

func TestStrangeIntegersAllOver(t *testing.T) {
	s := &source{362436069}
	all := strange()
	pick := func() int64 { return all[s.word()%uint64(len(all))] }
	for range 20000 {
		comparePlace(t, elements(pick(), pick(), pick(), pick(), pick(), pick(), pick()), pick())
		o := s.right()
		for range 1 + s.word()%2 {
			o = changed(o, int(s.word()%7), pick())
		}
		if !rightExact(o) {
			comparePlace(t, o, s.from(0, last))
		}
	}
	for _, m := range all {
		for _, e := range all {
			compareKepler(t, m, e)
		}
	}
}
