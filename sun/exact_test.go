package sun_test

import (
	"math"
	"math/big"
	"sort"
	"testing"

	"alidade/api"
	"alidade/fixed"
	"alidade/sun"
)

// The chapter's steps, worked with integers of any size, and with nothing of the program.

// exact is a flow over integers of any size. It remembers at which of the steps it went bad.
type exact struct {
	bad      bool
	step, at string
}

func whole(a int64) *big.Int { return big.NewInt(a) }

func times(a, b *big.Int) *big.Int { return new(big.Int).Mul(a, b) }

// kept answers a; the flow goes bad where it is no number.
func (e *exact) kept(a *big.Int) *big.Int {
	if a.CmpAbs(whole(most)) > 0 && !e.bad {
		e.bad, e.at = true, e.step
	}
	return a
}

func (e *exact) add(a, b *big.Int) *big.Int { return e.kept(new(big.Int).Add(a, b)) }

func (e *exact) sub(a, b *big.Int) *big.Int { return e.kept(new(big.Int).Sub(a, b)) }

func (e *exact) mul(a, b *big.Int) *big.Int { return e.kept(rounded(times(a, b), whole(one))) }

func (e *exact) part(a *big.Int, p, q int64) *big.Int {
	return e.kept(rounded(times(a, whole(p)), whole(q)))
}

// rounded: (2 |n| + d) / 2 d, cut, with the sign of n, of d above 0.
func rounded(n, d *big.Int) *big.Int {
	up := new(big.Int).Abs(n)
	up.Add(up.Lsh(up, 1), d)
	up.Quo(up, new(big.Int).Lsh(d, 1))
	return times(up, whole(int64(n.Sign())))
}

// series: v, with d = 2n (2n + odd).
func (e *exact) series(t *big.Int, odd int64) *big.Int {
	u, v := e.mul(t, t), whole(one)
	for n := int64(10); n >= 1; n-- {
		v = e.sub(whole(one), e.part(e.mul(u, v), 1, 2*n*(2*n+odd)))
	}
	return v
}

// wave: the sine of an angle; with a quarter more, its cosine.
func (e *exact) wave(a *big.Int, more int64) *big.Int {
	r := new(big.Int).Mod(e.kept(a), whole(full))
	quarter, t := new(big.Int).QuoRem(r, whole(h), new(big.Int))
	k := (quarter.Int64() + more) % 4
	v := e.series(t, 1-2*(k%2))
	if k%2 == 0 {
		v = e.mul(t, v)
	}
	if k >= 2 {
		v.Neg(v)
	}
	return v
}

func (e *exact) sin(a *big.Int) *big.Int { return e.wave(a, 0) }

func (e *exact) cos(a *big.Int) *big.Int { return e.wave(a, 1) }

// gone: an angle that grows with the days, with its full turns.
func (e *exact) gone(from, rate, tick int64) *big.Int {
	return e.add(whole(from), e.mul(whole(rate), e.part(whole(one), tick, 86400000)))
}

func (e *exact) g(tick int64) *big.Int { return e.gone(6870645337657, 18913766030, tick) }

func (e *exact) q(tick int64) *big.Int { return e.gone(5399914965875, 18914669500, tick) }

func (e *exact) l(tick int64) *big.Int {
	g, q := e.g(tick), e.q(tick)
	g.Mod(g, whole(full))
	q.Mod(q, whole(full))
	once := e.mul(whole(36749037801), e.sin(g))
	return e.add(e.add(q, once), e.mul(whole(383801961), e.sin(times(g, whole(2)))))
}

func (e *exact) direction(tick int64) api.Vec {
	if tick < 0 || tick > 157766400000 {
		e.bad = true
		return api.Vec{}
	}
	l := e.l(tick)
	tilt := e.sub(whole(449733620800), e.mul(whole(6908), e.part(whole(one), tick, 86400000)))
	return api.Vec{
		e.cos(l).Int64(),
		e.mul(e.cos(tilt), e.sin(l)).Int64(),
		e.mul(e.sin(tilt), e.sin(l)).Int64(),
	}
}

// shaded answers also what Dot and the Norm come to, be they numbers or not.
func (e *exact) shaded(place, to api.Vec) (dark bool, c, norm *big.Int) {
	e.step = "a part"
	for i := range place {
		e.kept(whole(place[i]))
		e.kept(whole(to[i]))
	}
	var products, off [3]*big.Int
	e.step = "a product"
	for i := range place {
		products[i] = e.mul(whole(place[i]), whole(to[i]))
	}
	e.step = "a sum"
	c = e.add(e.add(products[0], products[1]), products[2])
	e.step = "what is scaled"
	for i := range to {
		off[i] = e.mul(whole(to[i]), c)
	}
	e.step = "a difference"
	squares := new(big.Int)
	for i := range place {
		d := e.sub(whole(place[i]), off[i])
		squares.Add(squares, times(d, d))
	}
	e.step = "the Norm"
	norm = e.kept(squares.Sqrt(squares))
	return !e.bad && c.Sign() < 0 && norm.Cmp(whole(7012835795048)) < 0, c, norm
}

// source answers integers, always the same ones.
type source struct {
	state uint64
}

func (s *source) word() uint64 {
	s.state ^= s.state << 13
	s.state ^= s.state >> 7
	s.state ^= s.state << 17
	return s.state
}

// below answers an integer of 0 up to below n.
func (s *source) below(n int64) int64 { return int64(s.word() % uint64(n)) }

// sized answers a number of up to so many bits, of either sign.
func (s *source) sized(bits int) int64 {
	return s.below(1<<bits+1) * (1 - 2*s.below(2))
}

// compareDirection holds Direction against the chapter's steps.
func compareDirection(t *testing.T, tick int64) {
	t.Helper()
	f, e := &fixed.Flow{}, &exact{}
	got, want := sun.Direction(f, tick), e.direction(tick)
	if got != want || f.Bad != e.bad {
		t.Fatalf("Direction(%d): %v, bad %v; want %v, bad %v", tick, got, f.Bad, want, e.bad)
	}
}

// compareShaded holds Shaded against the chapter's steps, and answers what they came to.
func compareShaded(t *testing.T, place, to api.Vec) (e *exact, c, norm *big.Int) {
	t.Helper()
	f, e := &fixed.Flow{}, &exact{}
	got := sun.Shaded(f, place, to)
	want, c, norm := e.shaded(place, to)
	if got != want || f.Bad != e.bad {
		t.Fatalf("Shaded(%v, %v): %v, bad %v; want %v, bad %v", place, to, got, f.Bad, want, e.bad)
	}
	return e, c, norm
}

func TestDirectionAgainstExactAllOver(t *testing.T) {
	// A step that no day is made of leads to other milliseconds in each day.
	for tick := int64(0); tick <= last; tick += 6291469 {
		compareDirection(t, tick)
	}
	for _, tick := range wrongTicks() {
		compareDirection(t, tick)
	}
}

func TestDirectionAgainstExactTickByTick(t *testing.T) {
	for _, from := range []int64{0, day - 500, 1000*day - 500, last - 1000} {
		for tick := from; tick <= from+1000; tick++ {
			compareDirection(t, tick)
		}
	}
	for tick := last; tick <= last+5; tick++ {
		compareDirection(t, tick)
	}
}

// Where an angle has come to one more quarter: another sine is taken, or the angle begins anew.
func TestDirectionAgainstExactWhereQuartersEnd(t *testing.T) {
	for name, angle := range map[string]func(e *exact, tick int64) *big.Int{"g": (*exact).g, "q": (*exact).q, "l": (*exact).l} {
		quarter := func(tick int64) int64 {
			return new(big.Int).Quo(angle(&exact{}, tick), whole(h)).Int64() % 4
		}
		ends := 0
		// A quarter takes some 91 days.
		for from := int64(0); from+day <= last; from += day {
			if quarter(from) == quarter(from+day) {
				continue
			}
			tick := from + int64(sort.Search(int(day), func(i int) bool { return quarter(from+int64(i)) != quarter(from) }))
			for beside := int64(-3); beside <= 3; beside++ {
				compareDirection(t, tick+beside)
			}
			ends++
		}
		if ends != 20 {
			t.Errorf("%s: %d quarters end", name, ends)
		}
	}
}

func TestViewsAgainstExact(t *testing.T) {
	for _, v := range views() {
		e, _, _ := compareShaded(t, v.place, v.sun)
		if e.bad != v.bad {
			t.Errorf("%s: bad %v", v.name, e.bad)
		}
	}
}

// Each view of badViews that is bad is so at the step that its name begins with.
func TestBadViewsAreBadWhereTheySay(t *testing.T) {
	for _, v := range badViews() {
		e := &exact{}
		e.shaded(v.place, v.sun)
		if e.bad && (len(v.name) < len(e.at) || v.name[:len(e.at)] != e.at) {
			t.Errorf("%s: bad at %s", v.name, e.at)
		}
	}
}

// Vectors of all lengths: each step leaves the numbers, behind the Earth, upright and on the sun's side.
func TestShadedAgainstExactAllOver(t *testing.T) {
	s := &source{88172645463325252}
	met := map[string]int{}
	for range 300000 {
		near, far := int(s.below(63)), int(s.below(63))
		if s.below(4) == 0 {
			// As far as numbers go, and a sun that is some 1 long.
			near, far = 62, 40
		}
		place := api.Vec{s.sized(near), s.sized(near), s.sized(near)}
		to := api.Vec{s.sized(far), s.sized(far), s.sized(far)}
		for s.below(3) == 0 {
			place[s.below(3)], to[s.below(3)] = s.sized(int(s.below(63))), 0
		}
		e, c, _ := compareShaded(t, place, to)
		met[[]string{"behind: ", "upright: ", "lit: "}[1+c.Sign()]+e.at]++
	}
	for _, side := range []string{"behind: ", "lit: "} {
		for _, step := range []string{"", "a product", "a sum", "what is scaled", "a difference", "the Norm"} {
			if met[side+step] < 20 {
				t.Errorf("%s%s: met %d times alone", side, step, met[side+step])
			}
		}
	}
	if met["upright: "] < 20 || met["upright: the Norm"] < 20 {
		t.Error(met)
	}
}

// Whatever is handed in: a call ends, and answers what the chapter says.
func TestStrangeIntegersAgainstExact(t *testing.T) {
	all := []int64{
		0, 1, -1, one / 2, one/2 - 1, one, -one, 2 * one, earth, -earth, earth - 1, 7 * one, -7 * one,
		1 << 51, -1 << 51, 1 << 61, most - 1, most, most + 1, -most, -most - 1, 3037000499, 3037000500,
		math.MaxInt64, math.MaxInt64 - 1, math.MinInt64, math.MinInt64 + 1,
	}
	s := &source{362436069}
	pick := func() int64 { return all[s.below(int64(len(all)))] }
	for range 100000 {
		compareShaded(t, api.Vec{pick(), pick(), pick()}, api.Vec{pick(), pick(), pick()})
	}
	for _, a := range all {
		compareDirection(t, a)
	}
}

// beside answers a vector of a length, upright on a direction, towards some side.
func (s *source) beside(to api.Vec, length float64) api.Vec {
	d := [3]float64{float(to[0]), float(to[1]), float(to[2])}
	side := [3]float64{}
	for length2(side) < 1.0/16 {
		v := [3]float64{float(s.sized(40)), float(s.sized(40)), float(s.sized(40))}
		along := v[0]*d[0] + v[1]*d[1] + v[2]*d[2]
		for i := range v {
			side[i] = v[i] - along*d[i]
		}
	}
	by := length / math.Sqrt(length2(side)) * float64(one)
	return api.Vec{int64(side[0] * by), int64(side[1] * by), int64(side[2] * by)}
}

func float(a int64) float64 { return float64(a) / float64(one) }

func length2(v [3]float64) float64 { return v[0]*v[0] + v[1]*v[1] + v[2]*v[2] }

// Places near the rim of the shade, and near the plane that parts it from the light, of many suns.
func TestShadedAgainstExactAtTheEdges(t *testing.T) {
	s := &source{2463534242}
	norms, dots := map[int64]int{}, map[int64]int{}
	for range 20000 {
		to := (&exact{}).direction(s.below(last + 1))
		rim := s.beside(to, float(earth))
		for along := range int64(3) {
			k := s.sized(44) * along / 2
			place := api.Vec{}
			for i := range place {
				place[i] = rim[i] + rounded(times(whole(k), whole(to[i])), whole(one)).Int64() + s.below(5) - 2
			}
			_, c, norm := compareShaded(t, place, to)
			norms[norm.Int64()-earth]++
			dots[c.Int64()]++
		}
	}
	for _, d := range []int64{-2, -1, 0, 1, 2} {
		if norms[d] < 100 || dots[d] < 100 {
			t.Errorf("%d: met as a Norm %d times, as a Dot %d times", d, norms[d], dots[d])
		}
	}
}
