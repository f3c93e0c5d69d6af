package filter_test

import (
	"math/big"
	"testing"

	"alidade/api"
	"alidade/filter"
	"alidade/fixed"
	"alidade/quat"
)

// The chapter's steps, and those of the layers below, worked with integers of any size, and with nothing of the program.

// exact is a flow over integers of any size: once it is bad, all that it answers is without worth.
type exact struct {
	bad bool
}

type (
	list  []*big.Int
	table []list
)

func whole(a int64) *big.Int { return big.NewInt(a) }

func times(a, b *big.Int) *big.Int { return new(big.Int).Mul(a, b) }

// wide answers numbers as integers of any size.
func wide(n ...int64) (a list) {
	for _, part := range n {
		a = append(a, whole(part))
	}
	return a
}

// kept answers a, or 0, and a bad flow, where it is no number.
func (e *exact) kept(a *big.Int) *big.Int {
	if e.bad || a.CmpAbs(whole(most)) > 0 {
		e.bad = true
		return whole(0)
	}
	return a
}

func (e *exact) add(a, b *big.Int) *big.Int { return e.kept(new(big.Int).Add(e.kept(a), e.kept(b))) }

func (e *exact) sub(a, b *big.Int) *big.Int { return e.kept(new(big.Int).Sub(e.kept(a), e.kept(b))) }

func (e *exact) mul(a, b *big.Int) *big.Int {
	return e.part(a, b, whole(one))
}

func (e *exact) div(a, b *big.Int) *big.Int { return e.part(a, whole(one), b) }

// part: a p / q, rounded: (2 |a p| + |q|) / (2 |q|), cut, with its sign.
func (e *exact) part(a, p, q *big.Int) *big.Int {
	over, under := times(e.kept(a), e.kept(p)), e.kept(q)
	if under.Sign() == 0 {
		e.bad = true
		return under
	}
	up, down := new(big.Int).Abs(over), new(big.Int).Abs(under)
	up.Add(up.Lsh(up, 1), down)
	up.Quo(up, down.Lsh(down, 1))
	if over.Sign()*under.Sign() < 0 {
		up.Neg(up)
	}
	return e.kept(up)
}

func (e *exact) norm(a ...*big.Int) *big.Int {
	sum := new(big.Int)
	for _, part := range a {
		sum.Add(sum, times(e.kept(part), part))
	}
	return e.kept(sum.Sqrt(sum))
}

// sqrt: of a number from least on; the flow goes bad below it.
func (e *exact) sqrt(a *big.Int, least int64) *big.Int {
	if e.kept(a).Cmp(whole(least)) < 0 {
		e.bad = true
		return whole(0)
	}
	square := times(a, whole(one))
	return e.kept(square.Sqrt(square))
}

// unit: each part divided by n; the flow goes bad where n is below the least.
func (e *exact) unit(a list, n *big.Int, least int64) (u list) {
	if n.Cmp(whole(least)) < 0 {
		e.bad = true
	}
	for _, part := range a {
		u = append(u, e.div(part, n))
	}
	return u
}

// sum: of the products of two lists, from 0 on.
func (e *exact) sum(a, b list) *big.Int {
	s := whole(0)
	for i := range a {
		s = e.add(s, e.mul(a[i], b[i]))
	}
	return s
}

func (e *exact) cross(a, b list) (c list) {
	for i := range 3 {
		j, k := (i+1)%3, (i+2)%3
		c = append(c, e.sub(e.mul(a[j], b[k]), e.mul(a[k], b[j])))
	}
	return c
}

// direction: a vector's unit.
func (e *exact) direction(v api.Vec) list {
	a := wide(v[:]...)
	return e.unit(a, e.norm(a...), 1<<20)
}

func (e *exact) quatMul(p, q list) (r list) {
	crossed := e.cross(q, p)
	for i := range 3 {
		r = append(r, e.add(e.add(e.mul(p[i], q[3]), e.mul(q[i], p[3])), crossed[i]))
	}
	return append(r, e.sub(e.mul(p[3], q[3]), e.sum(p[:3], q[:3])))
}

func opposite(q list) (r list) {
	for _, part := range q {
		r = append(r, new(big.Int).Neg(part))
	}
	return r
}

// upright: of q and its opposite the one whose w isn't below 0.
func upright(q list) list {
	if q[3].Sign() < 0 {
		return opposite(q)
	}
	return q
}

func (e *exact) quatUnit(q list) list {
	return upright(e.unit(q, e.norm(e.norm(q[:3]...), q[3]), 1<<39))
}

func (e *exact) turn(q, v list) (r list) {
	var t list
	for _, part := range e.cross(q, v) {
		t = append(t, e.mul(part, whole(2*one)))
	}
	again := e.cross(q, t)
	for i := range v {
		r = append(r, e.add(e.sub(v[i], e.mul(t[i], q[3])), again[i]))
	}
	return r
}

func (e *exact) fromRod(p list) list {
	d := e.sum(p, p)
	under := e.add(whole(16*one), d)
	var q list
	for _, part := range p {
		q = append(q, e.div(e.mul(part, whole(8*one)), under))
	}
	return e.quatUnit(append(q, e.div(e.sub(whole(16*one), d), under)))
}

func (e *exact) toRod(q list) (p list) {
	q = upright(q)
	under := e.add(whole(one), q[3])
	for _, part := range q[:3] {
		p = append(p, e.div(e.mul(part, whole(4*one)), under))
	}
	return p
}

// root takes each column's products off all that is behind it as soon as it is there: the same differences as row by row.
func (e *exact) root(m table) table {
	left, l := zeros(), zeros()
	for i := range l {
		copy(left[i], m[i][:i+1])
	}
	for k := range l {
		l[k][k] = e.sqrt(left[k][k], 1)
		for i := k + 1; i < len(l); i++ {
			l[i][k] = e.div(left[i][k], l[k][k])
		}
		for i := k + 1; i < len(l); i++ {
			for j := k + 1; j <= i; j++ {
				left[i][j] = e.sub(left[i][j], e.mul(l[i][k], l[j][k]))
			}
		}
	}
	return l
}

func (e *exact) solve(l table, b list) list {
	y, x := append(list{}, b...), zeros()[0]
	for k := range y {
		y[k] = e.div(y[k], l[k][k])
		for i := k + 1; i < len(y); i++ {
			y[i] = e.sub(y[i], e.mul(l[i][k], y[k]))
		}
	}
	for i := len(y) - 1; i >= 0; i-- {
		for k := i + 1; k < len(y); k++ {
			y[i] = e.sub(y[i], e.mul(l[k][i], x[k]))
		}
		x[i] = e.div(y[i], l[i][i])
	}
	return x
}

func zeros() (t table) {
	for range 6 {
		t = append(t, wide(0, 0, 0, 0, 0, 0))
	}
	return t
}

// belief: a guess over integers of any size.
type belief struct {
	q, bias list
	p       table
}

func widened(g api.Guess) (b belief) {
	b.q, b.bias = wide(g.Q[:]...), wide(g.Bias[:]...)
	for _, row := range g.P {
		b.p = append(b.p, wide(row[:]...))
	}
	return b
}

// narrow answers a belief as a guess; none, if the flow is bad.
func (e *exact) narrow(b belief) (g api.Guess) {
	if e.bad {
		return g
	}
	for i, part := range b.q {
		g.Q[i] = part.Int64()
	}
	for i, part := range b.bias {
		g.Bias[i] = part.Int64()
	}
	for i, row := range b.p {
		for j, part := range row {
			g.P[i][j] = part.Int64()
		}
	}
	return g
}

func (e *exact) points(b belief) table {
	l, c := e.root(b.p), e.sqrt(whole(7*one), 0)
	all := make(table, 13)
	all[0] = zeros()[0]
	for k := range 6 {
		for i := range 6 {
			all[1+k] = append(all[1+k], e.mul(c, l[i][k]))
		}
		all[7+k] = opposite(all[1+k])
	}
	return all
}

// mean: of thirteen numbers that a rule answers.
func (e *exact) mean(of func(n int) *big.Int) *big.Int {
	s := whole(0)
	for _, n := range []int{0, 0, 1, 2, 3, 4, 5, 6, 7, 8, 9, 10, 11, 12} {
		s = e.add(s, of(n))
	}
	return e.part(s, whole(1), whole(14))
}

func (e *exact) means(rows table) (m list) {
	for i := range 6 {
		m = append(m, e.mean(func(n int) *big.Int { return rows[n][i] }))
	}
	return m
}

func (e *exact) products(a, b table) table {
	m := zeros()
	for i := range m {
		for j := range m {
			m[i][j] = e.mean(func(n int) *big.Int { return e.mul(a[n][i], b[n][j]) })
		}
	}
	return m
}

// beside: rows less m.
func (e *exact) beside(rows table, m list) (all table) {
	for _, row := range rows {
		var less list
		for i := range row {
			less = append(less, e.sub(row[i], m[i]))
		}
		all = append(all, less)
	}
	return all
}

// raise adds to the diagonal.
func (e *exact) raise(m table, more ...*big.Int) {
	for i := range m {
		m[i][i] = e.add(m[i][i], more[i/3])
	}
}

func (e *exact) stands(b belief, point list) list { return e.quatMul(e.fromRod(point[:3]), b.q) }

// turnedOn: an attitude and a bias, led by six numbers.
func (e *exact) turnedOn(q, bias, by list) (next belief) {
	next.q = e.quatUnit(e.quatMul(e.fromRod(by[:3]), q))
	for i := range bias {
		next.bias = append(next.bias, e.add(bias[i], by[3+i]))
	}
	return next
}

func (e *exact) move(b belief, rate list, ms int64) belief {
	if ms < 10 || ms > 10000 {
		e.bad = true
		return b
	}
	points := e.points(b)
	var then table
	for _, point := range points {
		var t list
		for i := range rate {
			free := e.sub(e.sub(rate[i], b.bias[i]), point[3+i])
			t = append(t, e.part(free, whole(ms), whole(1000)))
		}
		then = append(then, e.quatMul(e.fromRod(t), e.stands(b, point)))
	}
	r := e.quatUnit(then[0])
	back := append(opposite(r[:3]), r[3])
	var rows table
	for n, point := range points {
		rows = append(rows, append(e.toRod(e.quatMul(then[n], back)), point[3:]...))
	}
	m := e.means(rows)
	off := e.beside(rows, m)
	next := e.turnedOn(r, b.bias, m)
	next.p = e.products(off, off)
	e.raise(next.p, e.part(whole(65536), whole(ms), whole(1000)), e.part(whole(1024), whole(ms), whole(1000)))
	return next
}

func (e *exact) meet(b belief, sky, body [2]api.Vec) (next belief, chi *big.Int, believed bool) {
	first, second := e.direction(sky[0]), e.direction(sky[1])
	seen := append(e.direction(body[0]), e.direction(body[1])...)
	points := e.points(b)
	var rows table
	for _, point := range points {
		q := e.stands(b, point)
		rows = append(rows, append(e.turn(q, first), e.turn(q, second)...))
	}
	z := e.means(rows)
	off := e.beside(rows, z)
	s, c := e.products(off, off), e.products(points, off)
	e.raise(s, whole(one/16384), whole(one/4096))
	y := e.beside(table{seen}, z)[0]
	l := e.root(s)
	chi = e.sum(y, e.solve(l, y))
	if e.bad || chi.Cmp(whole(30*one)) > 0 {
		return b, chi, false
	}
	next = e.led(b, l, c, y)
	return next, chi, true
}

func (e *exact) led(b belief, l, c table, y list) belief {
	t, d := zeros(), zeros()[0]
	for i := range t {
		k := e.solve(l, c[i])
		d[i] = e.sum(k, y)
		for j := range t {
			t[i][j] = e.sub(b.p[i][j], e.sum(k, c[j]))
		}
	}
	next := e.turnedOn(b.q, b.bias, d)
	next.p = zeros()
	for i := range t {
		for j := range t {
			next.p[i][j] = e.part(e.add(t[i][j], t[j][i]), whole(1), whole(2))
		}
	}
	return next
}

func moveExact(g api.Guess, rate api.Vec, ms int64) (api.Guess, bool) {
	e := &exact{}
	next := e.move(widened(g), wide(rate[:]...), ms)
	return e.narrow(next), e.bad
}

func meetExact(g api.Guess, sky, body pair) (api.Guess, int64, bool, bool) {
	e := &exact{}
	next, chi, believed := e.meet(widened(g), sky, body)
	if e.bad {
		return api.Guess{}, 0, false, true
	}
	if !believed {
		return g, chi.Int64(), false, false
	}
	return e.narrow(next), chi.Int64(), true, false
}

// What Move and Meet came to.
const (
	nothing = iota
	something
	disbelieved
)

func compareMove(t *testing.T, g api.Guess, rate api.Vec, ms int64) (api.Guess, int) {
	t.Helper()
	f := &fixed.Flow{}
	got := filter.Move(f, g, rate, ms)
	want, bad := moveExact(g, rate, ms)
	if got != want || f.Bad != bad {
		t.Fatalf("Move(%v, %v, %d): %v, bad %v; want %v, bad %v", g, rate, ms, got, f.Bad, want, bad)
	}
	if bad {
		return got, nothing
	}
	return got, something
}

func compareMeet(t *testing.T, g api.Guess, sky, body pair) (api.Guess, int) {
	t.Helper()
	f := &fixed.Flow{}
	got, chi, ok := filter.Meet(f, g, sky, body)
	want, wantChi, wantOk, bad := meetExact(g, sky, body)
	if got != want || chi != wantChi || ok != wantOk || f.Bad != bad {
		t.Fatalf("Meet(%v, %v, %v): %v, %d, %v, bad %v; want %v, %d, %v, bad %v", g, sky, body, got, chi, ok, f.Bad, want, wantChi, wantOk, bad)
	}
	switch {
	case bad:
		return got, nothing
	case ok:
		return got, something
	}
	return got, disbelieved
}

func comparePoints(t *testing.T, g api.Guess) {
	t.Helper()
	f, e := &fixed.Flow{}, &exact{}
	got := filter.Points(f, g)
	var want [13]api.Row
	if points := e.points(widened(g)); !e.bad {
		for n, point := range points {
			for i, part := range point {
				want[n][i] = part.Int64()
			}
		}
	}
	if got != want || f.Bad != e.bad {
		t.Fatalf("Points(%v): %v, bad %v; want %v, bad %v", g, got, f.Bad, want, e.bad)
	}
}

// The steps here answer what was worked out outside, too.
func TestExactAgainstJourneys(t *testing.T) {
	for _, j := range journeys() {
		g := j.from
		for _, s := range j.steps {
			want, chi, believed, bad := s.want, s.chi, s.believed, false
			if s.ms != 0 {
				g, bad = moveExact(g, s.rate, s.ms)
			} else {
				g, chi, believed, bad = meetExact(g, s.sky, s.body)
			}
			if g != want || chi != s.chi || believed != s.believed || bad {
				t.Errorf("%s: %v, %d, %v, bad %v; want %v", j.name, g, chi, believed, bad, s)
			}
		}
	}
}

// dice: numbers that look as if they were thrown, the same ones in each run.
type dice uint64

func (d *dice) bits(n int) uint64 {
	*d = *d*6364136223846793005 + 1442695040888963407
	high := uint64(*d) >> 32
	*d = *d*6364136223846793005 + 1442695040888963407
	return (high<<32 | uint64(*d)>>32) >> (64 - n)
}

// number: of up to so many bits, of either sign.
func (d *dice) number(bits int) int64 {
	n := int64(d.bits(bits))
	if d.bits(1) == 1 {
		return -n
	}
	return n
}

func (d *dice) vector(bits int) api.Vec {
	return api.Vec{d.number(bits), d.number(bits), d.number(bits)}
}

func (d *dice) below(n int) int { return int(d.bits(31) % uint64(n)) }

// sound: a P that has a root, of numbers of up to so many bits in the root.
func (d *dice) sound(bits int) (p api.Mat) {
	var l [6][6]int64
	for i := range l {
		for j := range i {
			l[i][j] = d.number(bits) / 2
		}
		l[i][i] = 1<<(bits-1) + int64(d.bits(bits-1))
	}
	for i := range p {
		for j := range p {
			s := whole(0)
			for k := range l {
				s.Add(s, times(whole(l[i][k]), whole(l[j][k])))
			}
			p[i][j] = s.Rsh(s, 40).Int64()
		}
		p[i][i]++
	}
	return p
}

// guess: any one, with an attitude of some length about 1 and a sound P.
func (d *dice) guess(bits int) api.Guess {
	g := api.Guess{Bias: d.vector(34), P: d.sound(bits)}
	for i := range g.Q {
		g.Q[i] = d.number(40)
	}
	g.Q[d.below(4)] += one
	return g
}

// attitude: any way to stand.
func (d *dice) attitude() api.Quat {
	for {
		f := &fixed.Flow{}
		if q := quat.Unit(f, api.Quat{d.number(40), d.number(40), d.number(40), d.number(40)}); !f.Bad {
			return q
		}
	}
}

// seen: what a body that stands as q sees of the sky, but for a turn of up to so many bits, told in other lengths.
func (d *dice) seen(q api.Quat, sky pair, bits int) (body pair) {
	f := &fixed.Flow{}
	q = quat.Mul(f, quat.FromRod(f, d.vector(bits)), quat.Unit(f, q))
	for i := range body {
		body[i] = quat.Turn(f, q, sky[i])
		shorter := d.below(4)
		for k := range body[i] {
			body[i][k] >>= shorter
		}
	}
	return body
}

// Guesses with a P of all sizes, moved and met.
func TestAllSizesToTheBit(t *testing.T) {
	thrown := dice(14)
	var moved, met [3]int
	for bits := 18; bits <= 50; bits++ {
		for range 12 {
			g := thrown.guess(bits)
			comparePoints(t, g)
			h, came := compareMove(t, g, thrown.vector(30+thrown.below(20)), int64(10+thrown.below(9991)))
			moved[came]++
			sky := pair{thrown.vector(41), thrown.vector(41)}
			_, came = compareMeet(t, g, sky, thrown.seen(g.Q, sky, 28+thrown.below(12)))
			met[came]++
			_, came = compareMeet(t, h, sky, thrown.seen(h.Q, sky, 28+thrown.below(12)))
			met[came]++
		}
	}
	if moved[something] < 150 || moved[nothing] < 10 || min(met[something], met[disbelieved], met[nothing]) < 40 {
		t.Errorf("moved %v, met %v", moved, met)
	}
}

// Each guess of a way through many steps, with rates and things seen of all kinds.
func TestWaysToTheBit(t *testing.T) {
	thrown := dice(41)
	var moved, met [3]int
	for way := range 12 {
		g := filter.Start(thrown.attitude())
		for range 25 {
			next, came := compareMove(t, g, thrown.vector(20+way+thrown.below(10)), int64(10+thrown.below(2000)))
			moved[came]++
			if came == something {
				g = next
			}
			sky := pair{thrown.vector(41), thrown.vector(45)}
			next, came = compareMeet(t, g, sky, thrown.seen(g.Q, sky, 28+thrown.below(10)))
			met[came]++
			if came == something {
				g = next
			}
		}
	}
	if moved[something] < 250 || met[something] < 100 || met[disbelieved] < 20 {
		t.Errorf("moved %v, met %v", moved, met)
	}
}

// edges: the ends of numbers and of integers, and what stands next to them.
func edges() []int64 {
	return []int64{
		least, -most - 1, -most, 1 - most, -most / 2, -2048 * one, -one, -one / 2, -1, 0,
		1, 1 << 20, one/2 - 1, one / 2, one, 4 * one, 2047 * one, 2048 * one, most / 14, most / 2, most - 1, most, most + 1, greatest,
	}
}

// One place of all that is handed in is an edge.
func TestEdgesToTheBit(t *testing.T) {
	thrown, some := dice(521), edges()
	var moved, met [3]int
	for range 900 {
		edge := some[thrown.below(len(some))]
		g := begun()
		rate, sky := thrown.vector(38), axes()
		body := thrown.seen(g.Q, sky, 38)
		switch i, j := thrown.below(6), thrown.below(6); thrown.below(7) {
		case 0:
			g.Q[i%4] = edge
		case 1:
			g.Bias[i%3] = edge
		case 2:
			rate[i%3] = edge
		case 3:
			sky[i%2][j%3] = edge
		case 4:
			body[i%2][j%3] = edge
		default:
			g.P[i][j] = edge
		}
		comparePoints(t, g)
		_, came := compareMove(t, g, rate, int64(5+thrown.below(1000)))
		moved[came]++
		_, came = compareMeet(t, g, sky, body)
		met[came]++
	}
	if min(moved[something], moved[nothing], met[something], met[nothing]) < 100 || met[disbelieved] < 20 {
		t.Errorf("moved %v, met %v", moved, met)
	}
}

// Things seen so far off that chi is about the gate, where one unit decides.
func TestAboutTheGateToTheBit(t *testing.T) {
	thrown := dice(30)
	var met [3]int
	for range 400 {
		body := gates()[0]
		for i := range body {
			for k := range body[i] {
				body[i][k] += thrown.number(1 + thrown.below(4))
			}
		}
		_, came := compareMeet(t, begun(), axes(), body)
		met[came]++
	}
	if min(met[something], met[disbelieved]) < 100 {
		t.Errorf("met %v", met)
	}
}
