package quat_test

import (
	"math"
	"math/big"
	"testing"

	"alidade/api"
	"alidade/fixed"
	"alidade/quat"
)

// The chapter's steps, worked with integers of any size, and with nothing of the program.

// exact is a flow over integers of any size.
type exact struct {
	bad bool
}

type list []*big.Int

func whole(a int64) *big.Int { return big.NewInt(a) }

func times(a, b *big.Int) *big.Int { return new(big.Int).Mul(a, b) }

func units(count int64) *big.Int { return times(whole(count), whole(one)) }

// kept answers a; the flow goes bad where it is no number.
func (e *exact) kept(a *big.Int) *big.Int {
	if a.CmpAbs(whole(most)) > 0 {
		e.bad = true
	}
	return a
}

func (e *exact) add(a, b *big.Int) *big.Int { return e.kept(new(big.Int).Add(a, b)) }

func (e *exact) sub(a, b *big.Int) *big.Int { return e.kept(new(big.Int).Sub(a, b)) }

func (e *exact) mul(a, b *big.Int) *big.Int { return e.kept(rounded(times(a, b), whole(one))) }

func (e *exact) div(a, b *big.Int) *big.Int {
	if b.Sign() == 0 {
		e.bad = true
		return whole(0)
	}
	return e.kept(rounded(times(a, whole(one)), b))
}

// rounded: (2 |n| + |d|) / (2 |d|), cut, with the sign of n / d.
func rounded(n, d *big.Int) *big.Int {
	sign := int64(n.Sign() * d.Sign())
	up, down := new(big.Int).Abs(n), new(big.Int).Abs(d)
	up.Add(up.Lsh(up, 1), down)
	up.Quo(up, down.Lsh(down, 1))
	return times(up, whole(sign))
}

func (e *exact) norm(a ...*big.Int) *big.Int {
	sum := new(big.Int)
	for _, part := range a {
		sum.Add(sum, times(part, part))
	}
	return e.kept(sum.Sqrt(sum))
}

// byPart does a step of two numbers at each part.
func byPart(step func(a, b *big.Int) *big.Int, a, b list) (all list) {
	for i := range a {
		all = append(all, step(a[i], b[i]))
	}
	return all
}

func (e *exact) scale(a list, k *big.Int) list { return byPart(e.mul, a, list{k, k, k}) }

func (e *exact) dot(a, b list) *big.Int {
	products := byPart(e.mul, a, b)
	return e.add(e.add(products[0], products[1]), products[2])
}

func (e *exact) cross(a, b list) (c list) {
	for i := range a {
		j, k := (i+1)%3, (i+2)%3
		c = append(c, e.sub(e.mul(a[j], b[k]), e.mul(a[k], b[j])))
	}
	return c
}

func (e *exact) product(p, q list) list {
	a, s, b, t := p[:3], p[3], q[:3], q[3]
	v := byPart(e.add, byPart(e.add, e.scale(a, t), e.scale(b, s)), e.cross(b, a))
	return append(v, e.sub(e.mul(s, t), e.dot(a, b)))
}

func opposite(a list) (all list) {
	for _, part := range a {
		all = append(all, new(big.Int).Neg(part))
	}
	return all
}

func (e *exact) unit(q list) (u list) {
	n := e.norm(e.norm(q[0], q[1], q[2]), q[3])
	if n.Cmp(whole(1<<39)) < 0 {
		e.bad = true
		return list{whole(0), whole(0), whole(0), whole(0)}
	}
	for _, part := range q {
		u = append(u, e.div(part, n))
	}
	if u[3].Sign() < 0 {
		return opposite(u)
	}
	return u
}

func (e *exact) turn(q, v list) list {
	a, s := q[:3], q[3]
	t := e.scale(e.cross(a, v), units(2))
	return byPart(e.add, byPart(e.sub, v, e.scale(t, s)), e.cross(a, t))
}

func (e *exact) fromRod(p list) (q list) {
	d := e.dot(p, p)
	below := e.add(units(16), d)
	for _, part := range p {
		q = append(q, e.div(e.mul(part, units(8)), below))
	}
	return e.unit(append(q, e.div(e.sub(units(16), d), below)))
}

func (e *exact) toRod(q list) (p list) {
	if q[3].Sign() < 0 {
		q = opposite(q)
	}
	below := e.add(units(1), q[3])
	for _, part := range q[:3] {
		p = append(p, e.div(e.mul(part, units(4)), below))
	}
	return p
}

func (e *exact) matrix(q list) list {
	m := make(list, 9)
	for column := range 3 {
		axis := list{whole(0), whole(0), whole(0)}
		axis[column] = units(1)
		for row, part := range e.turn(q, axis) {
			m[3*row+column] = part
		}
	}
	return m
}

func (e *exact) fromMatrix(m list) list {
	at := func(row, column int) *big.Int { return m[3*row+column] }
	t := e.add(e.add(at(0, 0), at(1, 1)), at(2, 2))
	first, greatest := -1, t
	for i := range 3 {
		if at(i, i).Cmp(greatest) > 0 {
			first, greatest = i, at(i, i)
		}
	}
	// Part i is of the two axes that come behind axis i, round and round.
	difference := func(i int) *big.Int { return e.sub(at((i+1)%3, (i+2)%3), at((i+2)%3, (i+1)%3)) }
	sum := func(i int) *big.Int { return e.add(at((i+1)%3, (i+2)%3), at((i+2)%3, (i+1)%3)) }
	if first < 0 {
		return e.unit(list{difference(0), difference(1), difference(2), e.add(units(1), t)})
	}
	q := make(list, 4)
	j, k := (first+1)%3, (first+2)%3
	q[first] = e.sub(e.sub(e.add(units(1), at(first, first)), at(j, j)), at(k, k))
	q[j], q[k], q[3] = sum(k), sum(j), difference(first)
	return e.unit(q)
}

// answer: what a call answers, its parts in one row, zeros behind them.
type answer [9]int64

func four(q api.Quat) (a answer) {
	copy(a[:], q[:])
	return a
}

func three(v api.Vec) (a answer) {
	copy(a[:], v[:])
	return a
}

func nine(m [3]api.Vec) (a answer) {
	for i, row := range m {
		copy(a[3*i:], row[:])
	}
	return a
}

func asMatrix(n []int64) [3]api.Vec {
	return [3]api.Vec{api.Vec(n[:3]), api.Vec(n[3:6]), api.Vec(n[6:9])}
}

// op: a call of the package that works in a flow, of numbers in one row, and the same call by exact steps.
type op struct {
	name  string
	takes int
	do    func(f *fixed.Flow, n []int64) answer
	exact func(e *exact, n list) list
}

func ops() []op {
	return []op{
		{"Mul", 8,
			func(f *fixed.Flow, n []int64) answer { return four(quat.Mul(f, api.Quat(n[:4]), api.Quat(n[4:8]))) },
			func(e *exact, n list) list { return e.product(n[:4:4], n[4:8:8]) }},
		{"Unit", 4,
			func(f *fixed.Flow, n []int64) answer { return four(quat.Unit(f, api.Quat(n[:4]))) },
			func(e *exact, n list) list { return e.unit(n) }},
		{"Turn", 7,
			func(f *fixed.Flow, n []int64) answer { return three(quat.Turn(f, api.Quat(n[:4]), api.Vec(n[4:7]))) },
			func(e *exact, n list) list { return e.turn(n[:4:4], n[4:7:7]) }},
		{"FromRod", 3,
			func(f *fixed.Flow, n []int64) answer { return four(quat.FromRod(f, api.Vec(n[:3]))) },
			func(e *exact, n list) list { return e.fromRod(n) }},
		{"ToRod", 4,
			func(f *fixed.Flow, n []int64) answer { return three(quat.ToRod(f, api.Quat(n[:4]))) },
			func(e *exact, n list) list { return e.toRod(n) }},
		{"Matrix", 4,
			func(f *fixed.Flow, n []int64) answer { return nine(quat.Matrix(f, api.Quat(n[:4]))) },
			func(e *exact, n list) list { return e.matrix(n) }},
		{"FromMatrix", 9,
			func(f *fixed.Flow, n []int64) answer { return four(quat.FromMatrix(f, asMatrix(n))) },
			func(e *exact, n list) list { return e.fromMatrix(n) }},
	}
}

// wanted answers what an op of numbers is to answer, and whether it is to make the flow bad. Each call uses each number that it is handed.
func wanted(o op, n []int64) (a answer, bad bool) {
	e := &exact{}
	var handed list
	for _, part := range n[:o.takes] {
		handed = append(handed, e.kept(whole(part)))
	}
	all := o.exact(e, handed)
	if e.bad {
		return answer{}, true
	}
	for i, part := range all {
		a[i] = part.Int64()
	}
	return a, false
}

// compare holds an op against its exact steps, and answers whether it came to something.
func compare(t *testing.T, o op, n []int64) bool {
	t.Helper()
	f := &fixed.Flow{}
	got := o.do(f, n)
	want, bad := wanted(o, n)
	if got != want || f.Bad != bad {
		t.Fatalf("%s of %v: %v, bad %v; want %v, bad %v", o.name, n, got, f.Bad, want, bad)
	}
	return !bad
}

// source answers numbers that look like any, always the same ones.
type source struct {
	state uint64
}

func (s *source) next() uint64 {
	s.state ^= s.state << 13
	s.state ^= s.state >> 7
	s.state ^= s.state << 17
	return s.state
}

// number: of up to so many bits, of either sign.
func (s *source) number(bits int) int64 {
	n := int64(s.next() >> (64 - bits))
	if s.next()>>20&1 == 1 {
		return -n
	}
	return n
}

func (s *source) numbers(count, bits int) (n []int64) {
	for range count {
		n = append(n, s.number(bits))
	}
	return n
}

// sizes: numbers each of which has a size of its own.
func (s *source) sizes(count int) (n []int64) {
	for range count {
		n = append(n, s.number(1+int(s.next()>>10%62)))
	}
	return n
}

// Numbers of all sizes, of the same size in one call and of mixed ones: some calls are to come to something, some not.
func TestToTheBit(t *testing.T) {
	for _, o := range ops() {
		s := &source{88172645463325252}
		good, all := 0, 0
		for bits := 1; bits <= 62; bits++ {
			for range 60 {
				all += 2
				if compare(t, o, s.numbers(o.takes, bits)) {
					good++
				}
				if compare(t, o, s.sizes(o.takes)) {
					good++
				}
			}
		}
		if good < all/8 || good == all {
			t.Errorf("%s: %d of %d came to something", o.name, good, all)
		}
	}
}

// Numbers about One, where nearly all that is rounded comes to something.
func TestAboutOneToTheBit(t *testing.T) {
	for _, o := range ops() {
		s := &source{2463534242}
		good := 0
		for range 5000 {
			if compare(t, o, s.numbers(o.takes, 41)) {
				good++
			}
		}
		if good < 4500 {
			t.Errorf("%s: %d came to something", o.name, good)
		}
	}
}

// edges: the ends of numbers, of integers, of what is taken for an attitude, and what stands next to them.
func edges() []int64 {
	return []int64{
		math.MinInt64, -most - 1, -most, 1 - most, one - most, -1 << 51, -16 * one, -one - 1, -one, 1 - one, -one / 2, 1 - one/2, -1,
		0, 1, one/2 - 1, one / 2, one - 1, one, one + 1, 16 * one, 1 << 50, 1 << 51, 1 << 60, most - one, most - 1, most, most + 1, math.MaxInt64,
	}
}

func TestEdgesToTheBit(t *testing.T) {
	for _, o := range ops() {
		s, some := &source{521288629}, edges()
		for i := range 30000 {
			// Few of many edges together come to something: each third time they are all small.
			few := some
			if i%3 == 0 {
				few = some[6:21]
			}
			var n []int64
			for range o.takes {
				n = append(n, few[s.next()>>20%uint64(len(few))])
			}
			compare(t, o, n)
		}
	}
}

// One part is at an edge, the others are plain: so that nothing else hides what comes of it.
func TestEdgesAloneToTheBit(t *testing.T) {
	for _, o := range ops() {
		for place := range o.takes {
			for _, edge := range edges() {
				for _, others := range []int64{0, 1, one / 2, one, -one} {
					n := []int64{others, others, others, others, others, others, others, others, others}[:o.takes]
					n[place] = edge
					compare(t, o, n)
				}
			}
		}
	}
}

// Diagonals that are alike, or whose sum is one of them, decide by who stands first.
func TestDiagonalsToTheBit(t *testing.T) {
	some := []int64{-2 * one, -one, 1 - one, -one / 2, -1, 0, 1, one / 2, one - 1, one, 2 * one}
	o := ops()[6]
	for _, m00 := range some {
		for _, m11 := range some {
			for _, m22 := range some {
				compare(t, o, []int64{m00, 3, one / 4, 9 * one, m11, -5 * one, one / 8, one / 2, m22})
			}
		}
	}
}
