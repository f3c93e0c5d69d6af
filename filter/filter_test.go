package filter_test

import (
	"math"
	"testing"

	"alidade/api"
	"alidade/filter"
	"alidade/fixed"
)

// Written out here, for the tests aren't to share the program's own numbers.
const (
	one      = int64(1) << 40
	most     = int64(1) << 62
	root7    = int64(2909034330719) // Sqrt(7 One)
	least    = int64(math.MinInt64)
	greatest = int64(math.MaxInt64)
)

type pair = [2]api.Vec

// noNumbers: those next to the numbers, and the farthest ones.
func noNumbers() []int64 { return []int64{most + 1, -most - 1, greatest, least} }

func noTurn() api.Quat { return api.Quat{0, 0, 0, one} }

// axes: the first two of them.
func axes() pair { return pair{{one, 0, 0}, {0, one, 0}} }

// diagonal: a guess of no turn with these on P's diagonal.
func diagonal(d api.Row) api.Guess {
	g := api.Guess{Q: noTurn()}
	for i := range d {
		g.P[i][i] = d[i]
	}
	return g
}

// begun: a guess of no turn as Start is to answer it.
func begun() api.Guess {
	return diagonal(api.Row{one / 64, one / 64, one / 64, one / 65536, one / 65536, one / 65536})
}

// put answers g with a at a place of P.
func put(g api.Guess, i, j int, a int64) api.Guess {
	g.P[i][j] = a
	return g
}

// moves holds Move against what it is to answer: in a good flow, in one that was bad ahead of it, and in none. bad is whether the good one is to be bad behind it.
func moves(t *testing.T, name string, g api.Guess, rate api.Vec, ms int64, want api.Guess, bad bool) {
	t.Helper()
	f := &fixed.Flow{}
	if got := filter.Move(f, g, rate, ms); got != want || f.Bad != bad {
		t.Errorf("%s: Move(%v, %v, %d): %v, bad %v; want %v, bad %v", name, g, rate, ms, got, f.Bad, want, bad)
	}
	f = &fixed.Flow{Bad: true}
	if got := filter.Move(f, g, rate, ms); got != (api.Guess{}) || !f.Bad {
		t.Errorf("%s: Move(%v, %v, %d) in a bad flow: %v, bad %v", name, g, rate, ms, got, f.Bad)
	}
	if got := filter.Move(nil, g, rate, ms); got != (api.Guess{}) {
		t.Errorf("%s: Move(%v, %v, %d) in no flow: %v", name, g, rate, ms, got)
	}
}

// stuck: Move is to make the flow bad.
func stuck(t *testing.T, name string, g api.Guess, rate api.Vec, ms int64) {
	t.Helper()
	moves(t, name, g, rate, ms, api.Guess{}, true)
}

// goes: Move is to come to something; it answers to what.
func goes(t *testing.T, name string, g api.Guess, rate api.Vec, ms int64) api.Guess {
	t.Helper()
	f := &fixed.Flow{}
	h := filter.Move(f, g, rate, ms)
	if f.Bad || h == (api.Guess{}) {
		t.Errorf("%s: Move(%v, %v, %d): %v, bad %v", name, g, rate, ms, h, f.Bad)
	}
	return h
}

// meets holds Meet against what it is to answer, in the same three flows.
func meets(t *testing.T, name string, g api.Guess, sky, body pair, want api.Guess, chi int64, believed, bad bool) {
	t.Helper()
	f := &fixed.Flow{}
	if h, c, ok := filter.Meet(f, g, sky, body); h != want || c != chi || ok != believed || f.Bad != bad {
		t.Errorf("%s: Meet(%v, %v, %v): %v, %d, %v, bad %v; want %v, %d, %v, bad %v", name, g, sky, body, h, c, ok, f.Bad, want, chi, believed, bad)
	}
	f = &fixed.Flow{Bad: true}
	if h, c, ok := filter.Meet(f, g, sky, body); h != (api.Guess{}) || c != 0 || ok || !f.Bad {
		t.Errorf("%s: Meet(%v, %v, %v) in a bad flow: %v, %d, %v, bad %v", name, g, sky, body, h, c, ok, f.Bad)
	}
	if h, c, ok := filter.Meet(nil, g, sky, body); h != (api.Guess{}) || c != 0 || ok {
		t.Errorf("%s: Meet(%v, %v, %v) in no flow: %v, %d, %v", name, g, sky, body, h, c, ok)
	}
}

// blind: Meet is to make the flow bad.
func blind(t *testing.T, name string, g api.Guess, sky, body pair) {
	t.Helper()
	meets(t, name, g, sky, body, api.Guess{}, 0, false, true)
}

// believes: Meet is to come to something; it answers to what.
func believes(t *testing.T, name string, g api.Guess, sky, body pair) (api.Guess, int64) {
	t.Helper()
	f := &fixed.Flow{}
	h, chi, ok := filter.Meet(f, g, sky, body)
	if f.Bad || !ok || h == (api.Guess{}) {
		t.Errorf("%s: Meet(%v, %v, %v): %v, %d, %v, bad %v", name, g, sky, body, h, chi, ok, f.Bad)
	}
	return h, chi
}

// The whole of what each step answers.
func TestJourneys(t *testing.T) {
	for _, j := range journeys() {
		g := j.from
		for _, s := range j.steps {
			if s.ms != 0 {
				moves(t, j.name, g, s.rate, s.ms, s.want, false)
			} else {
				meets(t, j.name, g, s.sky, s.body, s.want, s.chi, s.believed, false)
			}
			g = s.want
		}
	}
}

func TestTheChaptersExample(t *testing.T) {
	f := &fixed.Flow{}
	g := filter.Start(noTurn())
	h := filter.Move(f, g, api.Vec{}, 1000)
	if h.Q != noTurn() || h.Bias != (api.Vec{}) || f.Bad {
		t.Errorf("%v, bad %v", h, f.Bad)
	}
	for i := range h.P {
		if h.P[i][i] <= g.P[i][i] {
			t.Errorf("place %d: %d, then %d", i, g.P[i][i], h.P[i][i])
		}
	}
}

func TestStart(t *testing.T) {
	for _, q := range []api.Quat{
		noTurn(), {}, {one, 0, 0, 0}, {0, one, 0, 0}, {0, 0, one, 0}, {0, 0, 0, -one}, {one / 2, -one / 2, one / 2, -one / 2},
		{1, 2, 3, 4}, {5 * one, -6 * one, 7 * one, 8 * one}, {most, -most, most, -most}, {most + 1, -most - 1, greatest, least},
	} {
		g := filter.Start(q)
		if g.Q != q || g.Bias != (api.Vec{}) {
			t.Errorf("Start(%v): %v", q, g)
		}
		for i := range g.P {
			for j, n := range g.P[i] {
				want := int64(0)
				if i == j {
					want = []int64{17179869184, 16777216}[i/3]
				}
				if n != want {
					t.Errorf("Start(%v): P at %d, %d: %d; want %d", q, i, j, n, want)
				}
			}
		}
	}
}

// told holds Points against what they are to be, in a good flow, in one that was bad ahead of it, and in none.
func told(t *testing.T, name string, g api.Guess, want [13]api.Row, bad bool) {
	t.Helper()
	f := &fixed.Flow{}
	if got := filter.Points(f, g); got != want || f.Bad != bad {
		t.Errorf("%s: %v, bad %v; want %v, bad %v", name, got, f.Bad, want, bad)
	}
	f = &fixed.Flow{Bad: true}
	if got := filter.Points(f, g); got != ([13]api.Row{}) || !f.Bad {
		t.Errorf("%s in a bad flow: %v, bad %v", name, got, f.Bad)
	}
	if got := filter.Points(nil, g); got != ([13]api.Row{}) {
		t.Errorf("%s in no flow: %v", name, got)
	}
}

// rootless: P is to have no points.
func rootless(t *testing.T, name string, g api.Guess) {
	t.Helper()
	told(t, name, g, [13]api.Row{}, true)
	stuck(t, name, g, api.Vec{}, 1000)
	blind(t, name, g, axes(), axes())
}

// Roots of eighths, so that each number of the points is told without any working out: a place of the root by Sqrt(7 One).
func TestPointsOfEighths(t *testing.T) {
	l := [6][6]int64{
		{3},
		{-1, 2},
		{2, 5, 4},
		{-3, 0, 1, 1},
		{1, -2, 0, 7, 8},
		{-4, 1, -6, 2, -1, 16},
	}
	var g api.Guess
	var want [13]api.Row
	for i := range l {
		for j := range l {
			for k := range l {
				g.P[i][j] += l[i][k] * l[j][k] * one / 64
			}
			// Sqrt(7 One) is odd: an eighth of it isn't whole.
			eighth := int64(math.Round(float64(root7*l[i][j]) / 8))
			want[1+j][i], want[7+j][i] = eighth, -eighth
		}
	}
	told(t, "eighths", g, want, false)
	// Attitude and bias, and what stands above the diagonal, play no part.
	g.Q, g.Bias = api.Quat{least, greatest, most, 7}, api.Vec{least, greatest, 5}
	for i := range l {
		for j := i + 1; j < len(l); j++ {
			g.P[i][j] = []int64{0, one, -most, most + 1, greatest, least}[(i+j)%6]
		}
	}
	told(t, "eighths, and what plays no part", g, want, false)
}

func TestPointsOfDiagonals(t *testing.T) {
	for _, c := range []struct {
		name         string
		place, point int64
	}{
		{"an eighth squared", one / 64, 363629291340},
		{"a 256th squared", one / 65536, 11363415354},
		{"1", one, 2909034330719},
		{"the least", 1, 2774271},
		{"the next one", 2, 3923411},
		{"most", most, 5957702309312512},
		{"just below most", most - 1, 5957702309312509},
	} {
		var want [13]api.Row
		var d api.Row
		for i := range d {
			d[i] = c.place
			want[1+i][i], want[7+i][i] = c.point, -c.point
		}
		told(t, c.name, diagonal(d), want, false)
	}
	started := [13]api.Row{}
	for i := range 3 {
		started[1+i][i], started[7+i][i] = 363629291340, -363629291340
		started[4+i][3+i], started[10+i][3+i] = 11363415354, -11363415354
	}
	told(t, "Start", filter.Start(noTurn()), started, false)
}

// In each place of the diagonal 0 and what is below it, and what is no number; below the diagonal what takes more off than there is.
func TestGuessesWithoutPoints(t *testing.T) {
	for i := range 6 {
		for _, a := range append(noNumbers(), 0, -1, -one, -most) {
			rootless(t, "diagonal", put(begun(), i, i, a))
		}
		for j := range i {
			for _, a := range append(noNumbers(), most, -most) {
				rootless(t, "below the diagonal", put(begun(), i, j, a))
			}
		}
	}
	rootless(t, "nothing", api.Guess{Q: noTurn()})
}

// Two that go along with each other altogether have no root; what goes along a little less has one.
func TestPointsOfTwoThatGoAlong(t *testing.T) {
	for i := range 6 {
		for j := range i {
			g := diagonal(api.Row{one, one, one, one, one, one})
			rootless(t, "altogether", put(g, i, j, one))
			rootless(t, "altogether, the other way", put(g, i, j, -one))
			rootless(t, "more than altogether", put(g, i, j, 2*one))
			var want [13]api.Row
			for k := range g.P {
				want[1+k][k] = root7
			}
			// 1 less (1 - 2^-40) squared is 2^-39.
			want[1+j][i], want[1+i][i] = 2909034330716, 3923411
			for k := range g.P {
				for n, a := range want[1+k] {
					want[7+k][n] = -a
				}
			}
			told(t, "nearly altogether", put(g, i, j, one-1), want, false)
		}
	}
}

func TestSpread(t *testing.T) {
	for _, c := range []struct {
		name string
		d    api.Row
		want int64
		bad  bool
	}{
		{"nothing", api.Row{}, 0, false},
		{"three", api.Row{1, 20, 300, 4000, 50000, 600000}, 321, false},
		{"Start", api.Row{one / 64, one / 64, one / 64, one / 65536, one / 65536, one / 65536}, 51539607552, false},
		{"below 0", api.Row{-1, -20, 300, 5, 5, 5}, 279, false},
		{"most", api.Row{most, 0, 0}, most, false},
		{"most in the second", api.Row{0, most, 0}, most, false},
		{"most in the third", api.Row{0, 0, most}, most, false},
		{"-most", api.Row{-1, 1 - most, 0}, -most, false},
		{"to most", api.Row{most - 2, 1, 1}, most, false},
		{"past most", api.Row{most - 2, 1, 2}, 0, true},
		{"past -most", api.Row{2 - most, -1, -2}, 0, true},
		{"past most on the way", api.Row{most, 1, -1}, 0, true},
		{"past -most on the way", api.Row{-most, -1, 1}, 0, true},
		{"back ahead of it", api.Row{most, -1, 1}, most, false},
		{"back and forth", api.Row{most, -most, most}, most, false},
		{"most three times", api.Row{most, most, most}, 0, true},
		{"half of most twice", api.Row{most / 2, most / 2, 0}, most, false},
		{"half of most three times", api.Row{most / 2, most / 2, most / 2}, 0, true},
		{"the others play no part", api.Row{1, 2, 3, least, greatest, most + 1}, 6, false},
		{"no number first", api.Row{most + 1, 0, 0}, 0, true},
		{"no number second", api.Row{0, -most - 1, 0}, 0, true},
		{"no number third", api.Row{0, 0, greatest}, 0, true},
		{"the least integer", api.Row{0, 0, least}, 0, true},
		{"no numbers that would come to one", api.Row{greatest, -greatest, 1}, 0, true},
	} {
		g := diagonal(c.d)
		// Nothing beside the diagonal plays a part, nor do attitude and bias.
		g.Q, g.Bias, g.P[0][1], g.P[1][0], g.P[2][5] = api.Quat{least}, api.Vec{greatest}, least, greatest, 77
		f := &fixed.Flow{}
		if got := filter.Spread(f, g); got != c.want || f.Bad != c.bad {
			t.Errorf("%s: %d, bad %v; want %d, bad %v", c.name, got, f.Bad, c.want, c.bad)
		}
		f = &fixed.Flow{Bad: true}
		if got := filter.Spread(f, g); got != 0 || !f.Bad {
			t.Errorf("%s in a bad flow: %d, bad %v", c.name, got, f.Bad)
		}
		if got := filter.Spread(nil, g); got != 0 {
			t.Errorf("%s in no flow: %d", c.name, got)
		}
	}
}
