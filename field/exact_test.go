package field_test

import (
	"math"
	"math/big"
	"testing"

	"alidade/api"
	"alidade/field"
	"alidade/fixed"
)

// The chapter's steps, worked with integers of any size, and with nothing of the program.

// atZero: of a degree and an order, g and h at tick 0, as the chapter's first table has them.
var atZero = map[[2]int64][2]int64{
	{1, 0}: {-293500, 0},
	{1, 1}: {-14103, 45455},
	{2, 0}: {-25562, 0},
	{2, 1}: {29509, -31336},
	{2, 2}: {16487, -8142},
	{3, 0}: {13609, 0},
	{3, 1}: {-24042, -569},
	{3, 2}: {12438, 2376},
	{3, 3}: {4534, -5496},
	{4, 0}: {8947, 0},
	{4, 1}: {7996, 2786},
	{4, 2}: {558, -1340},
	{4, 3}: {-2811, 2120},
	{4, 4}: {120, -3754},
	{5, 0}: {-2329, 0},
	{5, 1}: {3690, 453},
	{5, 2}: {1872, 2200},
	{5, 3}: {-1387, -1229},
	{5, 4}: {-1419, 429},
	{5, 5}: {209, 1062},
	{6, 0}: {643, 0},
	{6, 1}: {638, -184},
	{6, 2}: {767, 168},
	{6, 3}: {-1157, 489},
	{6, 4}: {-409, -598},
	{6, 5}: {149, 109},
	{6, 6}: {-608, 728},
}

// inYear: the second table.
var inYear = map[[2]int64][2]int64{
	{1, 0}: {126, 0},
	{1, 1}: {100, -215},
	{2, 0}: {-112, 0},
	{2, 1}: {-53, -273},
	{2, 2}: {-83, -111},
}

// exact is a flow over integers of any size. It remembers at which of the steps it went bad first.
type exact struct {
	bad      bool
	step, at string
}

func whole(a int64) *big.Int { return big.NewInt(a) }

func times(a, b *big.Int) *big.Int { return new(big.Int).Mul(a, b) }

func (e *exact) fail() {
	if !e.bad {
		e.bad, e.at = true, e.step
	}
}

// kept answers a; the flow goes bad where it is no number.
func (e *exact) kept(a *big.Int) *big.Int {
	if a.CmpAbs(whole(most)) > 0 {
		e.fail()
	}
	return a
}

func (e *exact) add(a, b *big.Int) *big.Int { return e.kept(new(big.Int).Add(a, b)) }

func (e *exact) sub(a, b *big.Int) *big.Int { return e.kept(new(big.Int).Sub(a, b)) }

func (e *exact) mul(a, b *big.Int) *big.Int { return e.kept(rounded(times(a, b), whole(one))) }

func (e *exact) div(a, b *big.Int) *big.Int { return e.kept(rounded(times(a, whole(one)), b)) }

func (e *exact) part(a *big.Int, p, q int64) *big.Int {
	return e.kept(rounded(times(a, whole(p)), whole(q)))
}

func (e *exact) sqrt(a *big.Int) *big.Int { return new(big.Int).Sqrt(times(a, whole(one))) }

func (e *exact) norm(all ...*big.Int) *big.Int {
	squares := new(big.Int)
	for _, a := range all {
		squares.Add(squares, times(a, a))
	}
	return e.kept(squares.Sqrt(squares))
}

// rounded: (2 |n| + d) / 2 d, cut, with the sign of n, of d above 0.
func rounded(n, d *big.Int) *big.Int {
	up := new(big.Int).Abs(n)
	up.Add(up.Lsh(up, 1), d)
	up.Quo(up, new(big.Int).Lsh(d, 1))
	return times(up, whole(int64(n.Sign())))
}

// series: v, with d = 2n (2n + odd).
func (e *exact) series(t *big.Int, odd int64) *big.Int {
	u, v := e.mul(t, t), whole(one)
	for n := int64(10); n >= 1; n-- {
		v = e.sub(whole(one), e.part(e.mul(u, v), 1, 2*n*(2*n+odd)))
	}
	return v
}

// wave: the sine of an angle; with a quarter more, its cosine.
func (e *exact) wave(a *big.Int, more int64) *big.Int {
	r := new(big.Int).Mod(a, whole(full))
	quarter, t := new(big.Int).QuoRem(r, whole(h), new(big.Int))
	k := (quarter.Int64() + more) % 4
	v := e.series(t, 1-2*(k%2))
	if k%2 == 0 {
		v = e.mul(t, v)
	}
	if k >= 2 {
		v.Neg(v)
	}
	return v
}

func (e *exact) days(tick int64) *big.Int { return e.part(whole(one), tick, 86400000) }

// turn: the cosine and the sine of the angle by which the Earth has turned.
func (e *exact) turn(tick int64) (c, s *big.Int) {
	q := e.add(whole(5399947124839), e.part(whole(full), tick%86400000, 86400000))
	q = e.add(q, e.mul(whole(18914669620), e.days(tick)))
	return e.wave(q, 1), e.wave(q, 0)
}

// number answers g or h, of which 0 or 1.
func (e *exact) number(n, m, tick int64, which int) *big.Int {
	a := e.part(whole(one), atZero[[2]int64{n, m}][which], 10000)
	if n > 2 {
		return a
	}
	y := e.div(e.days(tick), whole(401596622045184))
	return e.add(a, e.mul(y, e.part(whole(one), inYear[[2]int64{n, m}][which], 10000)))
}

// ladder works P, D and Q of an angle by asking for those that they are worked of. What was worked is found again.
type ladder struct {
	e       *exact
	c, s    *big.Int
	p, d, q map[[2]int64]*big.Int
}

func newLadder(e *exact, c, s *big.Int) *ladder {
	return &ladder{e, c, s,
		map[[2]int64]*big.Int{{0, 0}: whole(one), {1, 1}: s},
		map[[2]int64]*big.Int{{0, 0}: whole(0), {1, 1}: c},
		map[[2]int64]*big.Int{{1, 1}: whole(one)},
	}
}

// k: the root of n n - m m.
func (l *ladder) k(n, m int64) *big.Int { return l.e.sqrt(times(whole(n*n-m*m), whole(one))) }

func (l *ladder) a(n, m int64) *big.Int { return l.e.div(l.k(n-1, m), l.k(n, m)) }

func (l *ladder) b(n, m int64) *big.Int { return l.e.div(whole((2*n-1)*one), l.k(n, m)) }

func (l *ladder) j(n int64) *big.Int { return l.e.sqrt(l.e.part(whole(one), 2*n-1, 2*n)) }

// once answers what a table has, or what is worked for it.
func once(table map[[2]int64]*big.Int, n, m int64, work func() *big.Int) *big.Int {
	if n < m {
		return whole(0)
	}
	if table[[2]int64{n, m}] == nil {
		table[[2]int64{n, m}] = work()
	}
	return table[[2]int64{n, m}]
}

func (l *ladder) ofP(n, m int64) *big.Int {
	e := l.e
	return once(l.p, n, m, func() *big.Int {
		if n == m {
			return e.mul(l.j(n), e.mul(l.s, l.ofP(n-1, n-1)))
		}
		return e.sub(e.mul(l.b(n, m), e.mul(l.c, l.ofP(n-1, m))), e.mul(l.a(n, m), l.ofP(n-2, m)))
	})
}

func (l *ladder) ofD(n, m int64) *big.Int {
	e := l.e
	return once(l.d, n, m, func() *big.Int {
		if n == m {
			return e.mul(l.j(n), e.add(e.mul(l.s, l.ofD(n-1, n-1)), e.mul(l.c, l.ofP(n-1, n-1))))
		}
		inner := e.sub(e.mul(l.c, l.ofD(n-1, m)), e.mul(l.s, l.ofP(n-1, m)))
		return e.sub(e.mul(l.b(n, m), inner), e.mul(l.a(n, m), l.ofD(n-2, m)))
	})
}

func (l *ladder) ofQ(n, m int64) *big.Int {
	e := l.e
	return once(l.q, n, m, func() *big.Int {
		if n == m {
			return e.mul(l.j(n), e.mul(l.s, l.ofQ(n-1, n-1)))
		}
		return e.sub(e.mul(l.b(n, m), e.mul(l.c, l.ofQ(n-1, m))), e.mul(l.a(n, m), l.ofQ(n-2, m)))
	})
}

// sums: up, south and east.
func (e *exact) sums(r *big.Int, u, v *big.Int, l *ladder, tick int64) (up, south, east *big.Int) {
	up, south, east = whole(0), whole(0), whole(0)
	cm, sm := []*big.Int{whole(one)}, []*big.Int{whole(0)}
	for m := range 6 {
		cm = append(cm, e.sub(e.mul(cm[m], u), e.mul(sm[m], v)))
		sm = append(sm, e.add(e.mul(sm[m], u), e.mul(cm[m], v)))
	}
	ratio := e.div(whole(7005208482886), r)
	t := e.mul(ratio, ratio)
	for n := int64(1); n <= 6; n++ {
		t = e.mul(t, ratio)
		for m := int64(0); m <= n; m++ {
			g, h := e.number(n, m, tick, 0), e.number(n, m, tick, 1)
			even := e.add(e.mul(g, cm[m]), e.mul(h, sm[m]))
			odd := e.sub(e.mul(g, sm[m]), e.mul(h, cm[m]))
			up = e.add(up, e.part(e.mul(t, e.mul(even, l.ofP(n, m))), n+1, 1))
			south = e.sub(south, e.mul(t, e.mul(even, l.ofD(n, m))))
			if m > 0 {
				east = e.add(east, e.part(e.mul(t, e.mul(odd, l.ofQ(n, m))), m, 1))
			}
		}
	}
	return up, south, east
}

// met: what the steps came to on the way, be they numbers or not.
type met struct {
	r, w *big.Int
}

func (e *exact) earth(x, y, z *big.Int, tick int64) ([3]*big.Int, met) {
	none := [3]*big.Int{whole(0), whole(0), whole(0)}
	e.step = "a part"
	for _, a := range []*big.Int{x, y, z} {
		e.kept(a)
	}
	e.step = "the Norm"
	r, w := e.norm(x, y, z), e.norm(x, y)
	e.step = "too near"
	if r.Cmp(whole(6*one)) < 0 {
		e.fail()
	}
	e.step = "too far"
	if r.Cmp(whole(10*one)) > 0 {
		e.fail()
	}
	e.step = "the tick"
	if tick < 0 || tick > 157766400000 {
		e.fail()
	}
	if e.bad {
		return none, met{r, w}
	}
	e.step = "behind"
	c, s := e.div(z, r), e.div(w, r)
	u, v := whole(one), whole(0)
	if w.Cmp(whole(1048576)) >= 0 {
		u, v = e.div(x, w), e.div(y, w)
	}
	up, south, east := e.sums(r, u, v, newLadder(e, c, s), tick)
	a := e.add(e.mul(up, s), e.mul(south, c))
	return [3]*big.Int{
		e.sub(e.mul(a, u), e.mul(east, v)),
		e.add(e.mul(a, v), e.mul(east, u)),
		e.sub(e.mul(up, c), e.mul(south, s)),
	}, met{r, w}
}

func (e *exact) earthField(place api.Vec, tick int64) (api.Vec, met) {
	b, met := e.earth(whole(place[0]), whole(place[1]), whole(place[2]), tick)
	return api.Vec{b[0].Int64(), b[1].Int64(), b[2].Int64()}, met
}

func (e *exact) skyField(place api.Vec, tick int64) (api.Vec, met) {
	e.step = "the tick"
	if tick < 0 || tick > 157766400000 {
		e.fail()
		return api.Vec{}, met{whole(0), whole(0)}
	}
	c, s := e.turn(tick)
	x, y := whole(place[0]), whole(place[1])
	e.step = "a part"
	e.kept(x)
	e.kept(y)
	e.step = "a product"
	xc, ys, yc, xs := e.mul(x, c), e.mul(y, s), e.mul(y, c), e.mul(x, s)
	e.step = "a sum"
	x, y = e.add(xc, ys), e.sub(yc, xs)
	b, met := e.earth(x, y, whole(place[2]), tick)
	if e.bad {
		return api.Vec{}, met
	}
	return api.Vec{
		e.sub(e.mul(b[0], c), e.mul(b[1], s)).Int64(),
		e.add(e.mul(b[1], c), e.mul(b[0], s)).Int64(),
		b[2].Int64(),
	}, met
}

// source answers integers, always the same ones.
type source struct {
	state uint64
}

func (s *source) word() uint64 {
	s.state ^= s.state << 13
	s.state ^= s.state >> 7
	s.state ^= s.state << 17
	return s.state
}

// below answers an integer of 0 up to below n.
func (s *source) below(n int64) int64 { return int64(s.word() % uint64(n)) }

// sized answers a number of up to so many bits, of either sign.
func (s *source) sized(bits int) int64 {
	return s.below(1<<bits+1) * (1 - 2*s.below(2))
}

// tick answers a right one; the first and the last are often among them.
func (s *source) tick() int64 {
	switch s.below(8) {
	case 0:
		return s.below(3)
	case 1:
		return last - s.below(3)
	}
	return s.below(last + 1)
}

// place answers one towards anywhere, so far from the middle of the Earth, but for a unit or so.
func (s *source) place(far int64) (place api.Vec) {
	v := [3]float64{}
	for length(v) < 1.0/16 {
		v = [3]float64{float(s.sized(40)), float(s.sized(40)), float(s.sized(40))}
	}
	for i := range place {
		place[i] = int64(v[i] / length(v) * float64(far))
	}
	return place
}

func float(a int64) float64 { return float64(a) / float64(one) }

func length(v [3]float64) float64 { return math.Sqrt(v[0]*v[0] + v[1]*v[1] + v[2]*v[2]) }

// compare holds Earth or Sky against the chapter's steps, and answers what was met on their way.
func compare(t *testing.T, sky bool, place api.Vec, tick int64) (*exact, met) {
	t.Helper()
	f, e := &fixed.Flow{}, &exact{}
	work, steps := field.Earth, e.earthField
	if sky {
		work, steps = field.Sky, e.skyField
	}
	got := work(f, place, tick)
	want, met := steps(place, tick)
	if got != want || f.Bad != e.bad {
		t.Fatalf("sky %v: of %v at %d: %v, bad %v; want %v, bad %v (%s)", sky, place, tick, got, f.Bad, want, e.bad, e.at)
	}
	return e, met
}

func TestSamplesAgainstExact(t *testing.T) {
	for _, s := range earthSamples() {
		compare(t, false, s.place, s.tick)
	}
	for _, s := range skySamples() {
		compare(t, true, s.place, s.tick)
	}
	for _, s := range wrongPlaces() {
		compare(t, false, s.place, 0)
		compare(t, true, s.place, 0)
	}
}

func TestNumberAgainstExact(t *testing.T) {
	s := &source{1181783497276652981}
	for range 3000 {
		tick := s.tick()
		for key := range atZero {
			f, e := &fixed.Flow{}, &exact{}
			n, m := key[0], key[1]
			g, h := field.Number(f, int(n), int(m), tick)
			wantG, wantH := e.number(n, m, tick, 0).Int64(), e.number(n, m, tick, 1).Int64()
			if g != wantG || h != wantH || f.Bad {
				t.Fatalf("Number(%d, %d, %d): %d, %d, bad %v; want %d, %d", n, m, tick, g, h, f.Bad, wantG, wantH)
			}
		}
	}
}

// Places all over the sky, as near and as far as there is a field.
func TestFieldsAgainstExactAllOver(t *testing.T) {
	s := &source{88172645463325252}
	for range 2500 {
		far := 6*one + s.below(4*one)
		if e, _ := compare(t, false, s.place(far), s.tick()); e.bad && e.at != "too near" {
			t.Fatal(e.at)
		}
		compare(t, true, s.place(far), s.tick())
	}
}

// least answers the least z of which the Norm of x, y and z isn't below n.
func least(x, y *big.Int, n int64) int64 {
	rest := times(whole(n), whole(n))
	rest.Sub(rest, times(x, x))
	rest.Sub(rest, times(y, y))
	z := new(big.Int).Sqrt(rest)
	if times(z, z).Cmp(rest) < 0 {
		z.Add(z, whole(1))
	}
	return z.Int64()
}

// The Norm is just below 6 or 10, just that and just above it, in all quarters, to the north and to the south.
func TestFieldsAgainstExactAtTheBounds(t *testing.T) {
	s := &source{2463534242}
	for _, sky := range []bool{false, true} {
		norms := map[int64]int{}
		for range 150 {
			place, tick := api.Vec{s.sized(41), s.sized(41)}, s.tick()
			x, y := whole(place[0]), whole(place[1])
			if sky {
				e := &exact{}
				c, s := e.turn(tick)
				x, y = e.add(e.mul(x, c), e.mul(y, s)), e.sub(e.mul(y, c), e.mul(x, s))
			}
			for _, bound := range []int64{6 * one, 10 * one} {
				at, above := least(x, y, bound), least(x, y, bound+1)
				for _, z := range []int64{at - 1, at, above - 1, above} {
					place[2] = z * (1 - 2*s.below(2))
					e, met := compare(t, sky, place, tick)
					norms[met.r.Int64()]++
					if r := met.r.Int64(); e.bad != (r < 6*one || r > 10*one) {
						t.Fatalf("sky %v: of %v at %d: bad %v at a Norm of %d", sky, place, tick, e.bad, r)
					}
				}
			}
		}
		for _, n := range []int64{6*one - 1, 6 * one, 6*one + 1, 10*one - 1, 10 * one, 10*one + 1} {
			if norms[n] < 100 {
				t.Errorf("sky %v: a Norm of %d: met %d times alone", sky, n, norms[n])
			}
		}
	}
}

// The way from the axis is just below a meter, just that, and just above it, on both sides; and next to nothing.
func TestFieldsAgainstExactAtTheAxis(t *testing.T) {
	s := &source{362436069}
	for _, sky := range []bool{false, true} {
		ways := map[int64]int{}
		for i := range 900 {
			wide := float64(way) + float64(s.below(5)-2)
			if i%9 == 0 {
				wide = float64(s.below(way * 2))
			}
			angle := float64(s.below(one)) / float64(one) * 2 * math.Pi
			place := api.Vec{
				int64(math.Round(wide * math.Cos(angle))),
				int64(math.Round(wide * math.Sin(angle))),
				(1 - 2*s.below(2)) * (6*one + s.below(4*one)),
			}
			_, met := compare(t, sky, place, s.tick())
			ways[met.w.Int64()-way]++
		}
		for _, d := range []int64{-2, -1, 0, 1} {
			if ways[d] < 50 {
				t.Errorf("sky %v: %d beside a meter: met %d times alone", sky, d, ways[d])
			}
		}
	}
}

// Along the axes, and a unit beside them.
func TestFieldsAgainstExactAlongTheAxes(t *testing.T) {
	for axis := range 3 {
		for _, far := range []int64{6 * one, 7 * one, -7 * one, -10*one + 1} {
			for beside := int64(-1); beside <= 1; beside++ {
				for other := int64(-1); other <= 1; other++ {
					place := api.Vec{}
					place[axis], place[(axis+1)%3], place[(axis+2)%3] = far, beside, other
					compare(t, false, place, day)
					compare(t, true, place, day)
				}
			}
		}
	}
}

// Sines and cosines of the Earth's turn change there from one series to the other, and some are more than 1.
func TestSkyAgainstExactWhereQuartersEnd(t *testing.T) {
	for _, at := range []int64{40355338, 61896356, 5188659751, 5210200768, 5231741795, 5253282815} {
		for tick := at - 12; tick <= at+12; tick++ {
			compare(t, true, api.Vec{5 * one, 3 * one, -4 * one}, tick)
			compare(t, true, api.Vec{0, -7 * one, 1}, tick)
		}
	}
}

// Vectors of all lengths: each step leaves the numbers.
func TestFieldsAgainstExactWhereTheyAreBad(t *testing.T) {
	s := &source{521288629}
	at := map[string]int{}
	for range 30000 {
		bits := int(s.below(63))
		if s.below(2) == 0 {
			bits = 62
		}
		place := api.Vec{s.sized(bits), s.sized(bits), s.sized(bits)}
		if s.below(8) == 0 {
			place[s.below(3)] = most + 1
		}
		e, _ := compare(t, false, place, s.tick())
		at["earth: "+e.at]++
		tick := s.tick()
		if s.below(16) == 0 {
			// A cosine that is more than 1.
			place, tick = api.Vec{most - s.below(1<<23), s.sized(20), s.sized(62)}, 5188659751
		}
		e, _ = compare(t, true, place, tick)
		at["sky: "+e.at]++
	}
	for _, step := range []string{
		"earth: a part", "earth: the Norm", "earth: too near", "earth: too far",
		"sky: a part", "sky: a product", "sky: a sum", "sky: the Norm", "sky: too near", "sky: too far",
	} {
		if at[step] < 100 {
			t.Errorf("%s: met %d times alone", step, at[step])
		}
	}
}

// Whatever is handed in: a call ends, and answers what the chapter says.
func TestStrangeIntegersAgainstExact(t *testing.T) {
	all := []int64{
		0, 1, -1, way - 1, way, -way, one, -one, 3 * one, 4 * one, -5 * one, 6 * one, 6*one - 1, 7 * one, -7 * one, 10 * one, -10*one - 1,
		1 << 51, 1 << 61, most - 1, most, most + 1, -most, -most - 1, 3037000499, 3037000500,
		math.MaxInt64, math.MaxInt64 - 1, math.MinInt64, math.MinInt64 + 1,
	}
	ticks := append(wrongTicks(), 0, 1, day, last-1, last, 0, 1, day, last-1, last, 1<<32, last/2, 40355338)
	s := &source{88675123}
	pick := func() int64 { return all[s.below(int64(len(all)))] }
	good := 0
	for range 20000 {
		place, tick := api.Vec{pick(), pick(), pick()}, ticks[s.below(int64(len(ticks)))]
		for _, sky := range []bool{false, true} {
			if e, _ := compare(t, sky, place, tick); !e.bad {
				good++
			}
		}
	}
	if good < 500 {
		t.Errorf("%d good ones alone", good)
	}
}
