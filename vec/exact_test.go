package vec_test

import (
	"math"
	"math/big"
	"testing"

	"alidade/api"
	"alidade/fixed"
	"alidade/vec"
)

// The chapter's steps, worked with integers of any size, and with nothing of the program.

// exact is a flow over integers of any size.
type exact struct {
	bad bool
}

type triple [3]*big.Int

func whole(a int64) *big.Int { return big.NewInt(a) }

func times(a, b *big.Int) *big.Int { return new(big.Int).Mul(a, b) }

// kept answers a; the flow goes bad where it is no number.
func (e *exact) kept(a *big.Int) *big.Int {
	if a.CmpAbs(whole(most)) > 0 {
		e.bad = true
	}
	return a
}

func (e *exact) add(a, b *big.Int) *big.Int { return e.kept(new(big.Int).Add(a, b)) }

func (e *exact) sub(a, b *big.Int) *big.Int { return e.kept(new(big.Int).Sub(a, b)) }

func (e *exact) mul(a, b *big.Int) *big.Int { return e.kept(rounded(times(a, b), whole(one))) }

func (e *exact) div(a, b *big.Int) *big.Int { return e.kept(rounded(times(a, whole(one)), b)) }

// rounded: (2 |n| + |d|) / (2 |d|), cut, with the sign of n / d.
func rounded(n, d *big.Int) *big.Int {
	sign := int64(n.Sign() * d.Sign())
	up, down := new(big.Int).Abs(n), new(big.Int).Abs(d)
	up.Add(up.Lsh(up, 1), down)
	up.Quo(up, down.Lsh(down, 1))
	return times(up, whole(sign))
}

func (e *exact) dot(a, b triple) *big.Int {
	first := e.add(e.mul(a[0], b[0]), e.mul(a[1], b[1]))
	return e.add(first, e.mul(a[2], b[2]))
}

func (e *exact) cross(a, b triple) (c triple) {
	for i := range c {
		j, k := (i+1)%3, (i+2)%3
		c[i] = e.sub(e.mul(a[j], b[k]), e.mul(a[k], b[j]))
	}
	return c
}

func (e *exact) norm(a triple) *big.Int {
	sum := new(big.Int)
	for _, part := range a {
		sum.Add(sum, times(part, part))
	}
	return e.kept(sum.Sqrt(sum))
}

func (e *exact) unit(a triple) (u triple) {
	n := e.norm(a)
	if n.Cmp(whole(1<<20)) < 0 {
		e.bad = true
		return triple{whole(0), whole(0), whole(0)}
	}
	for i := range u {
		u[i] = e.div(a[i], n)
	}
	return u
}

// op: a call of the package, of numbers in one row, and the same call by exact steps. All answers are laid in a vector: one number in its first part, two in its first two.
type op struct {
	name  string
	takes int
	do    func(f *fixed.Flow, n []int64) api.Vec
	exact func(e *exact, a, b triple) []*big.Int
}

func head(n []int64) api.Vec { return api.Vec(n[:3]) }

func tail(n []int64) api.Vec { return api.Vec(n[3:6]) }

// byPart does a step of two numbers at each part.
func byPart(step func(a, b *big.Int) *big.Int, a, b triple) (all []*big.Int) {
	for i := range a {
		all = append(all, step(a[i], b[i]))
	}
	return all
}

func ops() []op {
	return []op{
		{"Add", 6,
			func(f *fixed.Flow, n []int64) api.Vec { return vec.Add(f, head(n), tail(n)) },
			func(e *exact, a, b triple) []*big.Int { return byPart(e.add, a, b) }},
		{"Sub", 6,
			func(f *fixed.Flow, n []int64) api.Vec { return vec.Sub(f, head(n), tail(n)) },
			func(e *exact, a, b triple) []*big.Int { return byPart(e.sub, a, b) }},
		{"Scale", 4,
			func(f *fixed.Flow, n []int64) api.Vec { return vec.Scale(f, head(n), n[3]) },
			func(e *exact, a, b triple) []*big.Int { return byPart(e.mul, a, triple{b[0], b[0], b[0]}) }},
		{"Dot", 6,
			func(f *fixed.Flow, n []int64) api.Vec { return api.Vec{vec.Dot(f, head(n), tail(n))} },
			func(e *exact, a, b triple) []*big.Int { return []*big.Int{e.dot(a, b)} }},
		{"Cross", 6,
			func(f *fixed.Flow, n []int64) api.Vec { return vec.Cross(f, head(n), tail(n)) },
			func(e *exact, a, b triple) []*big.Int { c := e.cross(a, b); return c[:] }},
		{"Norm", 3,
			func(f *fixed.Flow, n []int64) api.Vec { return api.Vec{vec.Norm(f, head(n))} },
			func(e *exact, a, b triple) []*big.Int { return []*big.Int{e.norm(a)} }},
		{"Unit", 3,
			func(f *fixed.Flow, n []int64) api.Vec { return vec.Unit(f, head(n)) },
			func(e *exact, a, b triple) []*big.Int { u := e.unit(a); return u[:] }},
		{"Parts", 6,
			func(f *fixed.Flow, n []int64) api.Vec {
				sine, cosine := vec.Parts(f, head(n), tail(n))
				return api.Vec{sine, cosine}
			},
			func(e *exact, a, b triple) []*big.Int {
				u, v := e.unit(a), e.unit(b)
				return []*big.Int{e.norm(e.cross(u, v)), e.dot(u, v)}
			}},
	}
}

// wanted answers what an op of numbers is to answer, and whether it is to make the flow bad.
func wanted(o op, n []int64) (v api.Vec, bad bool) {
	e := &exact{}
	// Each call uses each number it is handed; where there are fewer than six the others are 0, which is one.
	var handed [6]*big.Int
	for i := range handed {
		handed[i] = whole(0)
		if i < len(n) {
			handed[i] = e.kept(whole(n[i]))
		}
	}
	all := o.exact(e, triple(handed[:3]), triple(handed[3:]))
	if e.bad {
		return api.Vec{}, true
	}
	for i, part := range all {
		v[i] = part.Int64()
	}
	return v, false
}

// compare holds an op against its exact steps, and answers whether it came to something.
func compare(t *testing.T, o op, n []int64) bool {
	t.Helper()
	f := &fixed.Flow{}
	got := o.do(f, n)
	want, bad := wanted(o, n)
	if got != want || f.Bad != bad {
		t.Fatalf("%s of %v: %v, bad %v; want %v, bad %v", o.name, n, got, f.Bad, want, bad)
	}
	return !bad
}

// source answers numbers that look like any, always the same ones.
type source struct {
	state uint64
}

func (s *source) next() uint64 {
	s.state ^= s.state << 13
	s.state ^= s.state >> 7
	s.state ^= s.state << 17
	return s.state
}

// number: of up to so many bits, of either sign.
func (s *source) number(bits int) int64 {
	drawn := s.next()
	n := int64(drawn >> (64 - bits))
	if s.next()>>20&1 == 1 {
		return -n
	}
	return n
}

func (s *source) numbers(count, bits int) (n []int64) {
	for range count {
		n = append(n, s.number(bits))
	}
	return n
}

// sizes: numbers each of which has a size of its own.
func (s *source) sizes(count int) (n []int64) {
	for range count {
		n = append(n, s.number(1+int(s.next()>>10%62)))
	}
	return n
}

// Numbers of all sizes, of the same size in one call and of mixed ones: some calls are to come to something, some not.
func TestToTheBit(t *testing.T) {
	for _, o := range ops() {
		s := &source{88172645463325252}
		good, all := 0, 0
		for bits := 1; bits <= 62; bits++ {
			for range 100 {
				all += 2
				if compare(t, o, s.numbers(o.takes, bits)) {
					good++
				}
				if compare(t, o, s.sizes(o.takes)) {
					good++
				}
			}
		}
		if good < all/3 {
			t.Errorf("%s: %d of %d came to something", o.name, good, all)
		}
	}
}

// Numbers about One, where all that is rounded comes to something.
func TestAboutOneToTheBit(t *testing.T) {
	for _, o := range ops() {
		s := &source{2463534242}
		for range 5000 {
			if n := s.numbers(o.takes, 42); !compare(t, o, n) {
				t.Fatalf("%s of %v came to nothing", o.name, n)
			}
		}
	}
}

// edges: the ends of numbers, of integers, of units, and what stands next to them.
func edges() []int64 {
	return []int64{
		math.MinInt64, -most - 1, -most, 1 - most, -one, -1 << 20, 1 - 1<<20, -1,
		0, 1, 1<<20 - 1, 1 << 20, one / 2, one, 1 << 51, most - 1, most, most + 1, math.MaxInt64,
	}
}

func TestEdgesToTheBit(t *testing.T) {
	for _, o := range ops() {
		s, some := &source{521288629}, edges()
		for range 30000 {
			var n []int64
			for range o.takes {
				n = append(n, some[s.next()>>20%uint64(len(some))])
			}
			compare(t, o, n)
		}
	}
}

// One part is at an edge, the others are plain: so that nothing else hides what comes of it.
func TestEdgesAloneToTheBit(t *testing.T) {
	for _, o := range ops() {
		for place := range o.takes {
			for _, edge := range edges() {
				for _, others := range []int64{0, 1, one, -one} {
					n := []int64{others, others, others, others, others, others}[:o.takes]
					n[place] = edge
					compare(t, o, n)
				}
			}
		}
	}
}
