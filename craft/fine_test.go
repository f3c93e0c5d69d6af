package craft_test

import (
	"math"
	"testing"

	"alidade/api"
	"alidade/filter"
	"alidade/fixed"
	"alidade/triad"
)

// slowly: a body that turns slowly.
func slowly(tick int64) body {
	b := still(tick)
	b.rate = [3]int{700, -900, 400}
	return b
}

// biased: a craft in Fine whose gyro is held to be off, and its body.
func biased(t *testing.T) (api.Craft, body) {
	t.Helper()
	c, b := comesToFine(t, slowly(seen))
	c.Guess.Bias = api.Vec{one / 1000, -one / 500, one / 3000}
	c.Plan.Miss, c.Plan.Lost = 2, 1
	return c, b.later(500)
}

// moved and met: what the filter makes of a guess, which has to be something.
func moved(t *testing.T, g api.Guess, rate api.Vec, ms int64) api.Guess {
	t.Helper()
	f := &fixed.Flow{}
	if g = filter.Move(f, g, rate, ms); f.Bad {
		t.Fatal("not moved")
	}
	return g
}

func met(t *testing.T, g api.Guess, sky [2]api.Vec, bytes string) (api.Guess, bool) {
	t.Helper()
	f := &fixed.Flow{}
	view := [2]api.Vec{reading(bytes[:23]).V, reading(bytes[23:]).V}
	g, _, ok := filter.Meet(f, g, sky, view)
	if f.Bad {
		t.Fatal("not met")
	}
	return g, ok
}

// fine: a step in Fine comes to this guess and this plan.
func fine(t *testing.T, name string, c api.Craft, tick int64, bytes string, g api.Guess, p api.Plan) {
	t.Helper()
	got := step(t, c, tick, bytes)
	if got.Guess != g || got.Plan != p {
		t.Errorf("%s: %+v, %+v; want %+v, %+v", name, got.Guess, got.Plan, g, p)
	}
}

func TestFineWithAndWithoutTheGyro(t *testing.T) {
	c, b := biased(t)
	sky, _ := b.sky()
	view := b.cells() + b.mag()
	by := moved(t, c.Guess, b.turns(), 500)
	without := moved(t, c.Guess, c.Guess.Bias, 500)
	if by == without {
		t.Fatal("the gyro says nothing")
	}
	seeing, took := met(t, by, sky, view)
	blind, takes := met(t, without, sky, view)
	if !took || !takes || seeing == by || blind == without {
		t.Fatal("nothing is taken")
	}
	fine(t, "with all", c, b.tick, b.gyro()+view, seeing, api.Plan{Mode: api.Fine})
	fine(t, "without the gyro", c, b.tick, view, blind, api.Plan{Mode: api.Fine, Lost: 2})
	fine(t, "with a gyro that is stale", c, b.tick, view+gyro(b.tick-501), blind, api.Plan{Mode: api.Fine, Lost: 2})
	fine(t, "with the gyro alone", c, b.tick, b.gyro(), by, api.Plan{Mode: api.Fine, Miss: 2})
	fine(t, "without anything", c, b.tick, "", without, api.Plan{Mode: api.Fine, Miss: 2, Lost: 2})
	c.Plan.Lost = 2
	fine(t, "without the gyro for the third time", c, b.tick, view, api.Guess{}, api.Plan{Mode: api.Coarse, Faults: api.FaultGyro})
	fine(t, "with it again", c, b.tick, b.gyro()+view, seeing, api.Plan{Mode: api.Fine})
}

// A quick turn is none of Fine's business.
func TestFineGoesOnWhileTheBodyTurnsQuickly(t *testing.T) {
	c, b := biased(t)
	s := quickly(b.tick)
	fine(t, "quickly", c, b.tick, s, moved(t, c.Guess, reading(s).V, 500), api.Plan{Mode: api.Fine, Miss: 2})
}

// Each condition of Pair and Lit missing: the guess is moved, and what is seen plays no part.
func TestFineWithoutPairOrLit(t *testing.T) {
	c, b := biased(t)
	by := moved(t, c.Guess, b.turns(), 500)
	want := api.Plan{Mode: api.Fine, Miss: 2}
	fine(t, "no sun", c, b.tick, b.gyro()+b.mag(), by, want)
	fine(t, "no mag", c, b.tick, b.gyro()+b.cells(), by, want)
	fine(t, "a dark sun", c, b.tick, b.gyro()+says(api.KindSun, b.tick)+b.mag(), by, want)
	fine(t, "a stale mag", c, b.tick, b.gyro()+b.cells()+mag(b.tick-501), by, want)
	fine(t, "readings in one direction", c, b.tick, b.gyro()+cells(b.tick)+says(api.KindMag, b.tick, 3000, 100), by, want)
	unplaced := c
	unplaced.Placed = false
	fine(t, "not Placed", unplaced, b.tick, b.all(), by, want)
	lost := c
	lost.Orbit.A = one
	fine(t, "elements that aren't right", lost, b.tick, b.all(), by, want)
	for name, tick := range map[string]int64{"one direction of the sky": near, "shaded": shaded, "just shaded": dusk} {
		b := b
		b.tick = tick
		c.Tick = tick - 500
		fine(t, name, c, tick, b.all(), by, want)
	}
}

// What is seen just ahead of the shade counts still.
func TestFineJustAheadOfTheShade(t *testing.T) {
	c, b := comesToFine(t, slowly(dusk-2501))
	b = b.later(500)
	sky, dark := b.sky()
	if b.tick != dusk-1 || dark {
		t.Fatal(b.tick, dark)
	}
	want, ok := met(t, moved(t, c.Guess, b.turns(), 500), sky, b.cells()+b.mag())
	if !ok {
		t.Fatal("not taken")
	}
	fine(t, "ahead", c, b.tick, b.all(), want, api.Plan{Mode: api.Fine})
}

// What isn't believed leaves the guess as it was moved, and is counted; the fifth time leads out of Fine.
func TestFineWithWhatIsntBelieved(t *testing.T) {
	c, b := biased(t)
	by := moved(t, c.Guess, b.turns(), 500)
	nonsense := b.cells() + says(api.KindMag, b.tick, -1000, 2500, -300)
	sky, _ := b.sky()
	if g, ok := met(t, by, sky, nonsense); ok || g != by {
		t.Fatal("believed")
	}
	for miss, want := range map[int]int{0: 1, 2: 3, 3: 4} {
		c.Plan.Miss = miss
		fine(t, "not believed", c, b.tick, b.gyro()+nonsense, by, api.Plan{Mode: api.Fine, Miss: want})
	}
	c.Plan.Miss = 4
	fine(t, "for the fifth time", c, b.tick, b.gyro()+nonsense, api.Guess{}, api.Plan{Mode: api.Coarse, Faults: api.FaultGate})
	fine(t, "behind four", c, b.tick, b.gyro(), by, api.Plan{Mode: api.Fine, Miss: 4})
}

// The time between two ticks is what the guess is moved by, at its edges too.
func TestFineIsMovedByTheTimeBetween(t *testing.T) {
	c, b := biased(t)
	for _, ms := range []int64{10, 11, 499, 500, 9999, 10000} {
		tick := c.Tick + ms
		// The reading's own tick doesn't matter.
		s := says(api.KindGyro, tick-5, b.rate[0], b.rate[1], b.rate[2])
		fine(t, "moved", c, tick, s, moved(t, c.Guess, b.turns(), ms), api.Plan{Mode: api.Fine, Miss: 2})
	}
	// A tick below 0 in a craft that is On.
	c.Tick = -100
	s := says(api.KindGyro, 100, b.rate[0], b.rate[1], b.rate[2])
	fine(t, "from below 0", c, 100, s, moved(t, c.Guess, b.turns(), 200), api.Plan{Mode: api.Fine, Miss: 2})
	for _, ms := range []int64{9, 10001} {
		c.Tick = b.tick - ms
		fine(t, "a gap", c, b.tick, b.all(), api.Guess{}, api.Plan{Mode: api.Coarse, Faults: api.FaultGap})
	}
}

// spoilt: guesses of which the filter makes nothing.
func spoilt(g api.Guess) map[string]api.Guess {
	all := map[string]api.Guess{"none": {}}
	for name, spoil := range map[string]func(g *api.Guess){
		"no root":              func(g *api.Guess) { g.P[2][2] = 0 },
		"no attitude":          func(g *api.Guess) { g.Q = api.Quat{} },
		"no number in Q":       func(g *api.Guess) { g.Q[1] = api.Most + 1 },
		"no number in Bias":    func(g *api.Guess) { g.Bias[0] = math.MinInt64 },
		"no number in P":       func(g *api.Guess) { g.P[5][0] = math.MaxInt64 },
		"a bias that is great": func(g *api.Guess) { g.Bias[2] = -api.Most },
	} {
		it := g
		spoil(&it)
		all[name] = it
	}
	return all
}

// A flow that goes bad in Fine: the fault filter, and Coarse; but a gap, or an order to be safe, stands ahead of it.
func TestFineWithAFlowThatGoesBad(t *testing.T) {
	c, b := biased(t)
	c.Plan.Faults = api.FaultGate
	for name, g := range spoilt(c.Guess) {
		c.Guess = g
		for _, bytes := range []string{b.all(), b.gyro(), "", b.cells() + b.mag()} {
			// Without a reading the bias alone is taken from the bias: one that is great comes to nothing then.
			if name == "a bias that is great" && (bytes == "" || bytes == b.cells()+b.mag()) {
				continue
			}
			fine(t, name, c, b.tick, bytes, api.Guess{}, api.Plan{Mode: api.Coarse, Faults: api.FaultGate | api.FaultFilter})
		}
		fine(t, name+", and safe", c, b.tick, b.all()+order(3, api.OrderSafe), api.Guess{}, api.Plan{Mode: api.Safe, Faults: api.FaultGate})
		fine(t, name+", and clear", c, b.tick, b.all()+order(3, api.OrderClear), api.Guess{}, api.Plan{Mode: api.Coarse, Faults: api.FaultFilter})
		fine(t, name+", and a gap", c, c.Tick+10001, b.all(), api.Guess{}, api.Plan{Mode: api.Coarse, Faults: api.FaultGate | api.FaultGap})
	}
}

// wide: a guess that has just this Spread once it was moved for 10 milliseconds without a rate.
func wide(t *testing.T, spread int64) api.Guess {
	t.Helper()
	g := filter.Start(api.Quat{0, 0, 0, one})
	for i := range 3 {
		g.P[i][i] = spread / 3
	}
	then := func() int64 { return filter.Spread(&fixed.Flow{}, moved(t, g, api.Vec{}, 10)) }
	for range 20 {
		g.P[0][0] += spread - then() - 10
		for range 30 {
			if then() == spread {
				return g
			}
			g.P[0][0]++
		}
		// Rounding has stepped over it on one axis.
		g.P[1][1]++
	}
	t.Fatal("no such guess")
	return g
}

// A Spread of One / 4 is the last one that may be.
func TestFineWithASpreadAtItsEnd(t *testing.T) {
	for _, l := range []struct {
		spread int64
		bad    bool
	}{{one/4 - 1, false}, {one / 4, false}, {one/4 + 1, true}, {one / 3, true}} {
		c := in(api.Fine, seen)
		c.Guess = wide(t, l.spread)
		for _, bytes := range []string{gyro(seen + 10), ""} {
			lost := 0
			if bytes == "" {
				lost = 1
			}
			if l.bad {
				fine(t, "too wide", c, seen+10, bytes, api.Guess{}, api.Plan{Mode: api.Coarse, Faults: api.FaultFilter})
				continue
			}
			fine(t, "just so", c, seen+10, bytes, moved(t, c.Guess, api.Vec{}, 10), api.Plan{Mode: api.Fine, Lost: lost})
		}
	}
}

// It is the Spread behind what is seen that counts.
func TestFineWithASpreadThatIsNarrowedByWhatIsSeen(t *testing.T) {
	b := still(seen)
	c := in(api.Fine, seen-10)
	c.Guess = wide(t, one/3)
	c.Guess.Q = b.q
	sky, _ := b.sky()
	want, ok := met(t, moved(t, c.Guess, api.Vec{}, 10), sky, b.cells()+b.mag())
	if !ok {
		t.Fatal("not taken")
	}
	fine(t, "narrowed", c, seen, b.all(), want, api.Plan{Mode: api.Fine})
	fine(t, "not narrowed", c, seen, b.gyro(), api.Guess{}, api.Plan{Mode: api.Coarse, Faults: api.FaultFilter})
}

// The way to Fine: a new guess, by sun and field of the sky and of the readings; it isn't moved in that step.
func TestTheWayToFine(t *testing.T) {
	for _, b := range []body{still(seen), slowly(seen), slowly(dusk - 1)} {
		sky, _ := b.sky()
		f := &fixed.Flow{}
		want := filter.Start(triad.Attitude(f, sky, [2]api.Vec{reading(b.cells()).V, reading(b.mag()).V}))
		c := in(api.Coarse, b.tick-500)
		c.Plan.Good, c.Plan.Faults = 1, api.FaultGap
		// What a craft that isn't in Fine held for a guess plays no part.
		for _, c.Guess = range []api.Guess{{}, filter.Start(api.Quat{one}), {Bias: api.Vec{math.MaxInt64}}} {
			fine(t, "the way to Fine", c, b.tick, b.all(), want, api.Plan{Mode: api.Fine, Faults: api.FaultGap})
		}
		if f.Bad || off(want.Q, b.q) > one/100 {
			t.Errorf("%d: %v is far from %v", b.tick, want.Q, b.q)
		}
	}
}

// Outside of Fine there is no guess, of any craft.
func TestNoGuessOutsideOfFine(t *testing.T) {
	b := still(seen)
	g := filter.Start(b.q)
	for _, guess := range []api.Guess{g, {Q: g.Q}, {Bias: api.Vec{1}}, {P: g.P}, {Q: api.Quat{math.MaxInt64}}} {
		for _, mode := range []int{api.Detumble, api.Coarse, api.Safe, -1, 4} {
			for _, bytes := range []string{"", b.all(), quickly(seen), order(1, api.OrderWake)} {
				c := in(mode, seen-500)
				c.Guess = guess
				if got := step(t, c, seen, bytes); got.Guess != (api.Guess{}) || got.Plan.Mode == api.Fine {
					t.Errorf("mode %d: %+v", mode, got)
				}
			}
		}
	}
}

// Orders in Fine: wake is for Safe alone, clear leaves the guess, and elements count in their own step.
func TestOrdersInFine(t *testing.T) {
	c, b := biased(t)
	c.Plan.Faults, c.Rejects = 9, 5
	want := step(t, c, b.tick, b.all())
	want.Ack = 6
	if got := step(t, c, b.tick, b.all()+order(6, api.OrderWake)); got != want {
		t.Errorf("wake: %+v; want %+v", got, want)
	}
	if got := step(t, c, b.tick, b.all()+order(6, api.OrderOrbit)); got != want {
		t.Errorf("the same elements: %+v; want %+v", got, want)
	}
	want.Rejects, want.Plan.Faults = 0, 0
	if got := step(t, c, b.tick, b.all()+order(6, api.OrderClear)); got != want {
		t.Errorf("clear: %+v; want %+v", got, want)
	}
	// A craft that was told wrong elements sees what isn't believed, until it is told the right ones.
	c.Orbit.M = one
	fine(t, "wrong elements", c, b.tick, b.all(), moved(t, c.Guess, b.turns(), 500), api.Plan{Mode: api.Fine, Miss: 3, Faults: 9})
	fine(t, "right ones", c, b.tick, b.all()+order(6, api.OrderOrbit), want.Guess, api.Plan{Mode: api.Fine, Faults: 9})
}
