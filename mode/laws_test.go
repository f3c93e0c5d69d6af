package mode_test

import (
	"testing"

	"alidade/api"
	"alidade/mode"
)

// countsFromZero: at all edges, and far beyond them.
func countsFromZero() []int {
	return []int{0, 1, 2, 3, 4, 5, 6, 50, 98, 99, 100, 101, greatest}
}

// comesToFine holds the first half of P15.2 for a plan, and answers behind how many steps it was Fine.
func comesToFine(t *testing.T, p api.Plan) int {
	t.Helper()
	from, behind := p, 0
	for step := range 40 {
		p = mode.Next(p, well())
		if behind == 0 && p.Mode == fine {
			behind = step + 1
		}
		if behind != 0 && p.Mode != fine {
			t.Fatalf("from %+v: Fine behind %d steps, then %+v", from, behind, p)
		}
		if p.Faults != from.Faults {
			t.Fatalf("from %+v: faults without a failure: %+v", from, p)
		}
	}
	if behind == 0 || behind > 16 {
		t.Fatalf("from %+v: Fine behind %d steps", from, behind)
	}
	return behind
}

// From every mode but Safe, with all counts beside each other.
func TestItComesToFine(t *testing.T) {
	slowest := [3]int{}
	for m := range slowest {
		for _, calm := range countsFromZero() {
			for _, good := range countsFromZero() {
				for _, miss := range countsFromZero() {
					for _, lost := range countsFromZero() {
						p := api.Plan{Mode: m, Calm: calm, Good: good, Miss: miss, Lost: lost, Faults: (calm + good) & 15}
						slowest[m] = max(slowest[m], comesToFine(t, p))
					}
				}
			}
		}
	}
	if slowest != [3]int{detumble: 5, coarse: 2, fine: 1} {
		t.Errorf("behind %v steps", slowest)
	}
}

// orWell: a thrown way to decide, or all is well, so that a journey comes to Fine, too.
func (d *dice) orWell() api.Seen {
	if d.below(2) == 0 {
		return well()
	}
	return d.seen()
}

// The same from whatever thrown steps have made of the zero plan.
func TestItComesToFineFromEverywhere(t *testing.T) {
	thrown := dice(152)
	from := map[int]int{}
	for range 20000 {
		var p api.Plan
		for range thrown.below(30) {
			s := thrown.orWell()
			if s.Order == 1 {
				s.Order = 0
			}
			p = mode.Next(p, s)
		}
		from[p.Mode]++
		comesToFine(t, p)
	}
	if from[detumble] < 100 || from[coarse] < 100 || from[fine] < 100 || from[safe] != 0 {
		t.Errorf("from %v", from)
	}
}

// Safe is left by order 2 alone: not even a long time leads out of it.
func TestSafeIsLeftByOrderTwoAlone(t *testing.T) {
	for _, s := range every() {
		for _, s.Order = range append(notSafe(), 1) {
			p := api.Plan{Mode: safe, Calm: 2, Good: 1, Miss: 4, Lost: 2, Faults: 5}
			for range 20 {
				p = mode.Next(p, s)
				if s.Order == 2 {
					break
				}
				if p.Mode != safe || p.Faults != 5 {
					t.Fatalf("%+v: %+v", s, p)
				}
			}
			if s.Order == 2 && p != (api.Plan{}) {
				t.Fatalf("%+v: %+v", s, p)
			}
		}
	}
}

func TestThrownStepsLeaveSafeByOrderTwoAlone(t *testing.T) {
	thrown := dice(153)
	left := 0
	for range 200000 {
		s := thrown.seen()
		p := api.Plan{Mode: safe, Calm: thrown.integer(), Good: thrown.integer(), Miss: thrown.integer(), Lost: thrown.integer(), Faults: thrown.integer()}
		q := mode.Next(p, s)
		if (q.Mode != safe) != (s.Order == 2) {
			t.Fatalf("Next(%+v, %+v): %+v", p, s, q)
		}
		if q.Mode != safe {
			left++
		}
	}
	if left < 100 {
		t.Errorf("left %d times", left)
	}
}

// From the zero plan on, whatever is decided: modes, counts and faults are in their ranges, and Fine is entered from Coarse alone, with all that is asked for.
func TestThrownJourneys(t *testing.T) {
	thrown := dice(154)
	entered := 0
	for range 2000 {
		var p api.Plan
		for range 200 {
			s := thrown.orWell()
			q := mode.Next(p, s)
			if q.Mode < 0 || q.Mode > 3 || q.Faults < 0 || q.Faults > 15 {
				t.Fatalf("Next(%+v, %+v): %+v", p, s, q)
			}
			if min(q.Calm, q.Good, q.Miss, q.Lost) < 0 || q.Calm > 2 || q.Good > 1 || q.Miss > 4 || q.Lost > 2 {
				t.Fatalf("Next(%+v, %+v): %+v", p, s, q)
			}
			if q.Mode == fine && p.Mode != fine {
				entered++
				if p.Mode != coarse || s.Gap || !s.Gyro || !s.Slow || !s.Pair || !s.Lit {
					t.Fatalf("Next(%+v, %+v): %+v", p, s, q)
				}
			}
			if q.Mode == fine && s.Gap {
				t.Fatalf("Next(%+v, %+v): %+v", p, s, q)
			}
			p = q
		}
	}
	if entered < 1000 {
		t.Errorf("entered Fine %d times", entered)
	}
}

// leg: what is decided, how often, and the plan behind the last of these steps.
type leg struct {
	name  string
	s     api.Seen
	times int
	want  api.Plan
}

// A journey through all modes and faults, worked out by hand.
func TestAJourney(t *testing.T) {
	blind := api.Seen{Gyro: true, Slow: true}
	refused := api.Seen{Gyro: true, Slow: true, Pair: true, Lit: true}
	var p api.Plan
	for _, l := range []leg{
		{"tumbles", api.Seen{Gyro: true, Pair: true, Lit: true}, 7, api.Plan{}},
		{"calm twice", blind, 2, api.Plan{Calm: 2}},
		{"tumbles again", api.Seen{Slow: true}, 1, api.Plan{}},
		{"calm, with gaps", api.Seen{Gap: true, Gyro: true, Slow: true}, 3, api.Plan{Mode: coarse}},
		{"sees nothing", blind, 200, api.Plan{Mode: coarse}},
		{"sees once", refused, 1, api.Plan{Mode: coarse, Good: 1}},
		{"shaded", api.Seen{Gyro: true, Slow: true, Pair: true}, 1, api.Plan{Mode: coarse}},
		{"sees twice", refused, 2, api.Plan{Mode: fine}},
		{"refuses four times", refused, 4, api.Plan{Mode: fine, Miss: 4}},
		{"shaded for long", blind, 300, api.Plan{Mode: fine, Miss: 4}},
		{"turns quickly", api.Seen{Gyro: true}, 3, api.Plan{Mode: fine, Miss: 4}},
		{"takes once", well(), 1, api.Plan{Mode: fine}},
		{"no gyro twice", api.Seen{Slow: true, Pair: true, Lit: true}, 2, api.Plan{Mode: fine, Miss: 2, Lost: 2}},
		{"the gyro again", blind, 1, api.Plan{Mode: fine, Miss: 2}},
		{"refuses thrice", refused, 3, api.Plan{Mode: coarse, Faults: gate}},
		{"well", well(), 2, api.Plan{Mode: fine, Faults: gate}},
		{"no gyro thrice", api.Seen{}, 3, api.Plan{Mode: coarse, Faults: gate + gyro}},
		{"well again", well(), 9, api.Plan{Mode: fine, Faults: gate + gyro}},
		{"the filter fails", api.Seen{Gyro: true, Slow: true, Bad: true}, 1, api.Plan{Mode: coarse, Faults: gate + gyro + filter}},
		{"well once", well(), 1, api.Plan{Mode: coarse, Good: 1, Faults: gate + gyro + filter}},
		{"a gap", api.Seen{Gap: true, Gyro: true, Slow: true, Pair: true, Lit: true}, 1, api.Plan{Mode: coarse, Faults: 15}},
		{"the same fault", api.Seen{Gap: true}, 5, api.Plan{Mode: coarse, Faults: 15}},
		{"tumbles once more", api.Seen{Gyro: true}, 1, api.Plan{Faults: 15}},
		{"calm once", blind, 1, api.Plan{Calm: 1, Faults: 15}},
		{"wake out of turn", api.Seen{Gyro: true, Slow: true, Order: 2}, 1, api.Plan{Calm: 2, Faults: 15}},
		{"safe", api.Seen{Gyro: true, Slow: true, Order: 1}, 1, api.Plan{Mode: safe, Faults: 15}},
		{"well, in Safe", well(), 50, api.Plan{Mode: safe, Faults: 15}},
		{"wake", api.Seen{Gyro: true, Slow: true, Order: 2}, 1, api.Plan{}},
		{"well to the end", well(), 5, api.Plan{Mode: fine}},
	} {
		for range l.times {
			p = mode.Next(p, l.s)
		}
		if p != l.want {
			t.Fatalf("%s: %+v; want %+v", l.name, p, l.want)
		}
	}
}

// What is answered hangs on the arguments alone: whatever was asked ahead of it, it is the same.
func TestOneAnswer(t *testing.T) {
	asked := func() (all []api.Plan) {
		thrown := dice(155)
		for range 5000 {
			p := api.Plan{Mode: thrown.below(5), Calm: thrown.below(4), Good: thrown.below(3), Miss: thrown.below(6), Lost: thrown.below(4), Faults: thrown.below(16)}
			all = append(all, mode.Next(p, thrown.seen()))
		}
		return all
	}
	first := asked()
	mode.Next(api.Plan{Mode: fine, Faults: -1}, api.Seen{Bad: true})
	mode.Next(api.Plan{Mode: least}, api.Seen{Order: 1})
	for i, again := range asked() {
		if again != first[i] {
			t.Fatalf("%d: %+v, then %+v", i, first[i], again)
		}
	}
}
