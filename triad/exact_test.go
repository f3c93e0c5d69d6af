package triad_test

import (
	"math"
	"math/big"
	"testing"

	"alidade/api"
	"alidade/fixed"
)

// The chapter's steps, worked with integers of any size, and with nothing of the program.

// exact is a flow over integers of any size.
type exact struct {
	bad bool
	way int // by which of t, m00, m11, m22 an attitude came of its matrix
}

type list []*big.Int

func whole(a int64) *big.Int { return big.NewInt(a) }

func times(a, b *big.Int) *big.Int { return new(big.Int).Mul(a, b) }

// kept answers a; the flow goes bad where it is no number.
func (e *exact) kept(a *big.Int) *big.Int {
	if a.CmpAbs(whole(most)) > 0 {
		e.bad = true
	}
	return a
}

func (e *exact) add(a, b *big.Int) *big.Int { return e.kept(new(big.Int).Add(a, b)) }

func (e *exact) sub(a, b *big.Int) *big.Int { return e.kept(new(big.Int).Sub(a, b)) }

func (e *exact) mul(a, b *big.Int) *big.Int { return e.kept(rounded(times(a, b), whole(one))) }

// rounded: (2 |n| + |d|) / (2 |d|), cut, with the sign of n / d.
func rounded(n, d *big.Int) *big.Int {
	sign := int64(n.Sign() * d.Sign())
	up, down := new(big.Int).Abs(n), new(big.Int).Abs(d)
	up.Add(up.Lsh(up, 1), down)
	up.Quo(up, down.Lsh(down, 1))
	return times(up, whole(sign))
}

func (e *exact) norm(a ...*big.Int) *big.Int {
	sum := new(big.Int)
	for _, part := range a {
		sum.Add(sum, times(part, part))
	}
	return e.kept(sum.Sqrt(sum))
}

// by answers each part divided by n; the flow goes bad where n is below the least.
func (e *exact) by(n *big.Int, least int64, a list) (u list) {
	for _, part := range a {
		if n.Cmp(whole(least)) < 0 {
			e.bad = true
			u = append(u, whole(0))
		} else {
			u = append(u, e.kept(rounded(times(part, whole(one)), n)))
		}
	}
	return u
}

func (e *exact) unit(a list) list { return e.by(e.norm(a...), 1<<20, a) }

func (e *exact) cross(a, b list) (c list) {
	for i := range a {
		j, k := (i+1)%3, (i+2)%3
		c = append(c, e.sub(e.mul(a[j], b[k]), e.mul(a[k], b[j])))
	}
	return c
}

func (e *exact) apart(a, b list) bool {
	return e.norm(e.cross(e.unit(a), e.unit(b))...).Cmp(whole(sine10)) >= 0
}

func (e *exact) axes(a, b list) [3]list {
	u := e.unit(a)
	v := e.unit(e.cross(u, e.unit(b)))
	return [3]list{u, v, e.cross(u, v)}
}

func (e *exact) attitude(sky0, sky1, body0, body1 list) list {
	if near := !e.apart(sky0, sky1) || !e.apart(body0, body1); near || e.bad {
		e.bad = true
		return nil
	}
	sky, body := e.axes(sky0, sky1), e.axes(body0, body1)
	var m [3][3]*big.Int
	for i := range 3 {
		for j := range 3 {
			first, second := e.mul(body[0][i], sky[0][j]), e.mul(body[1][i], sky[1][j])
			m[i][j] = e.add(e.add(first, second), e.mul(body[2][i], sky[2][j]))
		}
	}
	return e.ofMatrix(m)
}

func (e *exact) ofMatrix(m [3][3]*big.Int) list {
	t := e.add(e.add(m[0][0], m[1][1]), m[2][2])
	greatest := t
	e.way = 0
	for i := range 3 {
		if m[i][i].Cmp(greatest) > 0 {
			e.way, greatest = i+1, m[i][i]
		}
	}
	// Part i is of the two axes that come behind axis i, round and round.
	difference := func(i int) *big.Int { return e.sub(m[(i+1)%3][(i+2)%3], m[(i+2)%3][(i+1)%3]) }
	sum := func(i int) *big.Int { return e.add(m[(i+1)%3][(i+2)%3], m[(i+2)%3][(i+1)%3]) }
	if e.way == 0 {
		return e.quatUnit(list{difference(0), difference(1), difference(2), e.add(whole(one), t)})
	}
	i := e.way - 1
	j, k := (i+1)%3, (i+2)%3
	q := make(list, 4)
	q[i] = e.sub(e.sub(e.add(whole(one), m[i][i]), m[j][j]), m[k][k])
	q[j], q[k], q[3] = sum(k), sum(j), difference(i)
	return e.quatUnit(q)
}

func (e *exact) quatUnit(q list) list {
	u := e.by(e.norm(e.norm(q[:3]...), q[3]), 1<<39, q)
	if u[3].Sign() >= 0 {
		return u
	}
	var other list
	for _, part := range u {
		other = append(other, new(big.Int).Neg(part))
	}
	return other
}

// wanted answers what an op of numbers is to answer, and what its flow is to be. Each call uses each number that it is handed.
func wanted(o op, n []int64) (a api.Quat, e *exact) {
	e = &exact{}
	var handed list
	for _, part := range n[:o.takes] {
		handed = append(handed, e.kept(whole(part)))
	}
	all := o.exact(e, handed)
	if e.bad {
		return api.Quat{}, e
	}
	for i, part := range all {
		a[i] = part.Int64()
	}
	return a, e
}

// compare holds an op against its exact steps, and answers what it came to.
func compare(t *testing.T, o op, n []int64) *exact {
	t.Helper()
	f := &fixed.Flow{}
	got := o.do(f, n)
	want, e := wanted(o, n)
	if got != want || f.Bad != e.bad {
		t.Fatalf("%s of %v: %v, bad %v; want %v, bad %v", o.name, n, got, f.Bad, want, e.bad)
	}
	return e
}

// source answers numbers that look like any, always the same ones.
type source struct {
	state uint64
}

func (s *source) next() uint64 {
	s.state ^= s.state << 13
	s.state ^= s.state >> 7
	s.state ^= s.state << 17
	return s.state
}

// number: of up to so many bits, of either sign.
func (s *source) number(bits int) int64 {
	n := int64(s.next() >> (64 - bits))
	if s.next()>>20&1 == 1 {
		return -n
	}
	return n
}

func (s *source) numbers(count, bits int) (n []int64) {
	for range count {
		n = append(n, s.number(bits))
	}
	return n
}

// directions: of three parts each, each direction of a size of its own.
func (s *source) directions(count int) (n []int64) {
	for range count {
		n = append(n, s.numbers(3, 20+int(s.next()>>10%43))...)
	}
	return n
}

// Each of the four ways to an attitude is gone, and each way to none.
func TestToTheBit(t *testing.T) {
	for _, o := range ops() {
		s := &source{88172645463325252}
		good, all := 0, 0
		var ways [4]int
		for range 12000 {
			all++
			if e := compare(t, o, s.directions(4)); !e.bad {
				good++
				ways[e.way]++
			}
		}
		if good < all/4 || good == all {
			t.Errorf("%s: %d of %d came to something", o.name, good, all)
		}
		if o.name == "Attitude" && min(ways[0], ways[1], ways[2], ways[3]) < good/20 {
			t.Errorf("the ways were gone %v times", ways)
		}
	}
}

// Numbers of one size, from the least to the greatest.
func TestSizesToTheBit(t *testing.T) {
	for _, o := range ops() {
		s := &source{2463534242}
		for bits := 1; bits <= 62; bits++ {
			for range 60 {
				compare(t, o, s.numbers(o.takes, bits))
			}
		}
	}
}

// edges: the ends of numbers, of integers, of what has a unit, and what stands next to them.
func edges() []int64 {
	return []int64{
		math.MinInt64, -most - 1, -most, -most / 2, -one - 1, -one, 1 - one, -1 << 20, 1 - 1<<20, -1,
		0, 1, 1<<20 - 1, 1 << 20, 1<<20 + 1, sine10 - 1, sine10, cosine10, one - 1, one, one + 1, most / 2, most - 1, most, most + 1, math.MaxInt64,
	}
}

func TestEdgesToTheBit(t *testing.T) {
	for _, o := range ops() {
		s, some := &source{521288629}, edges()
		good := 0
		for i := range 20000 {
			// Few of many edges together come to something: mostly they are all small.
			few := some[3:22]
			if i%3 == 0 {
				few = some
			}
			var n []int64
			for range o.takes {
				n = append(n, few[s.next()>>20%uint64(len(few))])
			}
			if e := compare(t, o, n); !e.bad {
				good++
			}
		}
		if good < 2000 {
			t.Errorf("%s: %d came to something", o.name, good)
		}
	}
}

// Directions about 10 degrees from each other, where one unit decides.
func TestAboutTenDegreesToTheBit(t *testing.T) {
	o := ops()[0]
	s := &source{362436069}
	var sides [2]int
	for range 20000 {
		a := s.numbers(3, 41)
		b := tilted(a, s.numbers(3, 41), float64(s.number(2)))
		want, _ := wanted(o, append(a, b...))
		compare(t, o, append(a, b...))
		sides[want[0]]++
	}
	if min(sides[0], sides[1]) < 2000 {
		t.Errorf("sides %v", sides)
	}
}

// tilted answers a unit that is 10 degrees from a, to the side of r, but for some units of 2^-40.
func tilted(a, r []int64, off float64) []int64 {
	u := direction(api.Vec(a))
	side := direction(api.Vec(r))
	along := u[0]*side[0] + u[1]*side[1] + u[2]*side[2]
	var upright [3]float64
	for i := range side {
		upright[i] = side[i] - along*u[i]
	}
	long := math.Sqrt(upright[0]*upright[0] + upright[1]*upright[1] + upright[2]*upright[2])
	var b []int64
	for i := range upright {
		b = append(b, int64(math.Round(u[i]*cosine10+upright[i]/long*(sine10+off))))
	}
	return b
}

// direction: where v shows, 1 long.
func direction(v api.Vec) [3]float64 {
	x, y, z := float64(v[0]), float64(v[1]), float64(v[2])
	long := math.Sqrt(x*x + y*y + z*z)
	return [3]float64{x / long, y / long, z / long}
}
