package filter_test

import (
	"math/big"
	"testing"

	"alidade/api"
	"alidade/filter"
	"alidade/fixed"
	"alidade/quat"
)

// keeps holds P14.2 of a guess: its attitude is 1 long, but for 2^-36, which are 16 units of 2^-40, and P is the same about its diagonal.
func keeps(t *testing.T, what string, g api.Guess) {
	t.Helper()
	square := new(big.Int)
	for _, part := range g.Q {
		square.Add(square, times(whole(part), whole(part)))
	}
	if square.Cmp(times(whole(one-16), whole(one-16))) < 0 || square.Cmp(times(whole(one+16), whole(one+16))) > 0 {
		t.Fatalf("%s: %v is not 1 long", what, g.Q)
	}
	for i := range g.P {
		for j := range i {
			if g.P[i][j] != g.P[j][i] {
				t.Fatalf("%s: at %d, %d: %d, at %d, %d: %d", what, i, j, g.P[i][j], j, i, g.P[j][i])
			}
		}
	}
}

// kept: moves and meets a guess, holds P14.2 of both, and counts how many came to something. It answers the last guess that there was.
type kept struct {
	moved, met int
}

func (k *kept) step(t *testing.T, g api.Guess, rate api.Vec, ms int64, sky, body pair) api.Guess {
	t.Helper()
	f := &fixed.Flow{}
	if next := filter.Move(f, g, rate, ms); !f.Bad {
		keeps(t, "moved", next)
		k.moved++
		g = next
	}
	f = &fixed.Flow{}
	if next, _, ok := filter.Meet(f, g, sky, body); ok {
		keeps(t, "met", next)
		k.met++
		g = next
	}
	return g
}

// One guess behind the other, of many attitudes, rates and things seen.
func TestGuessesAreEvenAndOneLong(t *testing.T) {
	thrown := dice(142)
	var k kept
	for way := range 60 {
		g := filter.Start(thrown.attitude())
		for range 40 {
			sky := pair{thrown.vector(41), thrown.vector(30 + thrown.below(30))}
			g = k.step(t, g, thrown.vector(25+way%20), int64(10+thrown.below(9991)), sky, thrown.seen(g.Q, sky, 28+thrown.below(11)))
		}
	}
	if k.moved < 2000 || k.met < 1000 {
		t.Errorf("%v", k)
	}
}

// Of guesses whose attitude isn't 1 long, and whose P isn't the same about its diagonal, too.
func TestOddGuessesBecomeEvenAndOneLong(t *testing.T) {
	thrown := dice(241)
	var k kept
	for n := range 2500 {
		g := thrown.guess(28 + n%12)
		if n%2 == 0 {
			// One that is so long that hardly anything is seen as it says is rarely met.
			g.Q = thrown.attitude()
			g.Q[n%4] += thrown.number(34)
		}
		for i := range g.P {
			for j := i + 1; j < len(g.P); j++ {
				g.P[i][j] += thrown.number(5 + n%20)
			}
		}
		sky := pair{thrown.vector(41), thrown.vector(41)}
		// Met as it is, for what is moved is even already.
		f := &fixed.Flow{}
		if next, _, ok := filter.Meet(f, g, sky, thrown.seen(g.Q, sky, 36)); ok {
			keeps(t, "met", next)
			k.met++
		}
		k.step(t, g, thrown.vector(40), int64(10+thrown.below(9991)), sky, sky)
	}
	if k.moved < 2000 || k.met < 800 {
		t.Errorf("%v", k)
	}
}

// apart: by how much two attitudes are turned from each other, squared.
func apart(t *testing.T, p, q api.Quat) int64 {
	t.Helper()
	f := &fixed.Flow{}
	var sum int64
	for _, part := range quat.ToRod(f, quat.Mul(f, p, quat.Back(q))) {
		sum = f.Add(sum, f.Mul(part, part))
	}
	if f.Bad {
		t.Fatalf("%v and %v", p, q)
	}
	return sum
}

// The body doesn't turn, and the sensors say what is true: each thing seen brings the guess nearer, and makes it less wrong by its own word.
func TestAGuessComesNearer(t *testing.T) {
	thrown := dice(7)
	for range 60 {
		f := &fixed.Flow{}
		truth := thrown.attitude()
		g := filter.Start(quat.Mul(f, quat.FromRod(f, thrown.vector(38)), truth))
		sky := pair{{one, one / 3, 0}, {0, -one / 5, 2 * one}}
		body := pair{quat.Turn(f, truth, sky[0]), quat.Turn(f, truth, sky[1])}
		off, spread := apart(t, g.Q, truth), filter.Spread(f, g)
		for n := range 12 {
			next, chi, ok := filter.Meet(f, g, sky, body)
			if !ok || f.Bad {
				t.Fatalf("%d: %d, bad %v", n, chi, f.Bad)
			}
			now, wide := apart(t, next.Q, truth), filter.Spread(f, next)
			// Below a few units nothing comes nearer any more.
			if now >= off && now > 64 || wide >= spread {
				t.Fatalf("%d: off by %d, then %d; spread %d, then %d", n, off, now, spread, wide)
			}
			g, off, spread = next, now, wide
		}
		// Its root is a 128th.
		if off > one>>14 {
			t.Errorf("off by %d in the end", off)
		}
	}
}

// Without anything seen a guess is the more wrong, the longer it is moved.
func TestAGuessGrowsWrong(t *testing.T) {
	f := &fixed.Flow{}
	g := filter.Start(noTurn())
	for range 200 {
		next := filter.Move(f, g, api.Vec{one / 100, -one / 50, one / 70}, 1000)
		if f.Bad || filter.Spread(f, next) <= filter.Spread(f, g) || next.Bias != (api.Vec{}) {
			t.Fatalf("%v, then %v", g, next)
		}
		g = next
	}
}

// A turn by a rate is the rate's turn, whichever way the body stood: P hardly bends it where it is small.
func TestAMoveIsATurn(t *testing.T) {
	thrown := dice(99)
	for range 300 {
		f := &fixed.Flow{}
		q := thrown.attitude()
		g := little()
		g.Q, g.Bias = q, thrown.vector(36)
		rate, ms := thrown.vector(39), int64(10+thrown.below(3000))
		var by api.Vec
		for i := range by {
			by[i] = f.Part(f.Sub(rate[i], g.Bias[i]), ms, 1000)
		}
		want := quat.Mul(f, quat.FromRod(f, by), q)
		h := filter.Move(f, g, rate, ms)
		if f.Bad || apart(t, h.Q, quat.Unit(f, want)) > 16 || h.Bias != g.Bias {
			t.Fatalf("%v by %v in %d: %v; want %v", g, rate, ms, h, want)
		}
	}
}

// What goes bad in one call stays so in those behind it; a good flow goes on.
func TestFlowsGoOn(t *testing.T) {
	f := &fixed.Flow{}
	for range 2 {
		g := filter.Move(f, begun(), api.Vec{}, 100)
		if _, _, ok := filter.Meet(f, g, axes(), axes()); !ok || f.Bad {
			t.Errorf("%v, %v, bad %v", g, ok, f.Bad)
		}
		if _, _, ok := filter.Meet(f, g, axes(), pair{{0, one, 0}, {one, 0, 0}}); ok || f.Bad {
			t.Errorf("%v, bad %v", ok, f.Bad)
		}
		if filter.Points(f, g) == ([13]api.Row{}) || filter.Spread(f, g) == 0 || f.Bad {
			t.Errorf("%v, bad %v", g, f.Bad)
		}
	}
	for i, spoil := range []func(f *fixed.Flow){
		func(f *fixed.Flow) { filter.Points(f, api.Guess{}) },
		func(f *fixed.Flow) { filter.Move(f, begun(), api.Vec{}, 9) },
		func(f *fixed.Flow) { filter.Meet(f, begun(), axes(), pair{}) },
		func(f *fixed.Flow) { filter.Spread(f, put(begun(), 1, 1, least)) },
	} {
		f := &fixed.Flow{}
		if spoil(f); !f.Bad {
			t.Errorf("%d: not bad", i)
		}
		g, chi, ok := filter.Meet(f, begun(), axes(), axes())
		if g != (api.Guess{}) || chi != 0 || ok || !f.Bad {
			t.Errorf("%d: %v, %d, %v, bad %v", i, g, chi, ok, f.Bad)
		}
		if g := filter.Move(f, begun(), api.Vec{}, 100); g != (api.Guess{}) || !f.Bad {
			t.Errorf("%d: %v, bad %v", i, g, f.Bad)
		}
		if filter.Points(f, begun()) != ([13]api.Row{}) || filter.Spread(f, begun()) != 0 || !f.Bad {
			t.Errorf("%d: bad %v", i, f.Bad)
		}
	}
}

// What is answered hangs on the arguments alone: whatever was asked ahead of it, it is the same.
func TestOneAnswer(t *testing.T) {
	asked := func() (all []api.Guess) {
		for _, j := range journeys() {
			for _, s := range j.steps {
				f := &fixed.Flow{}
				g, _, _ := filter.Meet(f, s.want, axes(), s.body)
				all = append(all, filter.Move(f, s.want, s.rate, 100), g, api.Guess{Bias: api.Vec{filter.Spread(f, g)}})
			}
		}
		return all
	}
	first := asked()
	filter.Move(&fixed.Flow{Bad: true}, begun(), api.Vec{}, 100)
	filter.Meet(nil, begun(), axes(), axes())
	filter.Points(&fixed.Flow{}, api.Guess{})
	for i, again := range asked() {
		if again != first[i] {
			t.Errorf("%d: %v, then %v", i, first[i], again)
		}
	}
}
