package mode_test

import (
	"math"
	"testing"

	"alidade/api"
	"alidade/mode"
)

// Written out here, for the tests aren't to share the program's own numbers.
const (
	detumble = 0
	coarse   = 1
	fine     = 2
	safe     = 3

	gap    = 1
	gyro   = 2
	filter = 4
	gate   = 8

	least    = math.MinInt
	greatest = math.MaxInt
)

// well: all is well in a step.
func well() api.Seen {
	return api.Seen{Gyro: true, Slow: true, Pair: true, Lit: true, Pass: true}
}

// decided: what is decided by seven bits, without an order.
func decided(bits int) api.Seen {
	has := func(place int) bool { return bits>>place&1 == 1 }
	return api.Seen{Gap: has(0), Gyro: has(1), Slow: has(2), Pair: has(3), Lit: has(4), Bad: has(5), Pass: has(6)}
}

// every: all ways to decide, but for the order.
func every() []api.Seen {
	var all []api.Seen
	for bits := range 1 << 7 {
		all = append(all, decided(bits))
	}
	return all
}

// those: all ways to decide of which something holds.
func those(holds func(s api.Seen) bool) []api.Seen {
	var some []api.Seen
	for _, s := range every() {
		if holds(s) {
			some = append(some, s)
		}
	}
	return some
}

// notSafe: orders that aren't 1.
func notSafe() []int {
	return []int{0, 2, 3, 4, 5, 16, 255, -1, -2, 257, 258, 1<<32 + 1, 1<<32 + 2, least, least + 1, least + 2, greatest}
}

// noModes: those next to the modes, those that are one in fewer bits, and the farthest ones.
func noModes() []int {
	return []int{
		-1, 4, -2, -3, 5, 7, 100, 255, 256, 257, 258, 259, 1 << 16, 1<<16 + 1, 1 << 32, 1<<32 + 1, 1<<32 + 2, 1<<32 + 3,
		least, least + 1, least + 2, least + 3, greatest, greatest - 1,
	}
}

// faultsAhead: none, each, all, bits beside the four, and the ends.
func faultsAhead() []int {
	return []int{0, gap, gyro, filter, gate, 5, 10, 15, 16, 16 + gyro, 240, 255, 1 << 32, -1, -16, least, least + 6, greatest, greatest - 15}
}

// next holds Next against what it is to answer.
func next(t *testing.T, name string, p api.Plan, s api.Seen, want api.Plan) {
	t.Helper()
	if got := mode.Next(p, s); got != want {
		t.Errorf("%s: Next(%+v, %+v): %+v; want %+v", name, p, s, got, want)
	}
}

// goes: Next is to go to a mode, with these faults: all four counts are 0 then.
func goes(t *testing.T, name string, p api.Plan, s api.Seen, to, faults int) {
	t.Helper()
	next(t, name, p, s, api.Plan{Mode: to, Faults: faults})
}

// stays: Next is to answer the plan as it was.
func stays(t *testing.T, name string, p api.Plan, s api.Seen) {
	t.Helper()
	next(t, name, p, s, p)
}

func TestTheChaptersExamples(t *testing.T) {
	var p api.Plan
	calm := api.Seen{Gyro: true, Slow: true}
	for _, want := range []api.Plan{{Calm: 1}, {Calm: 2}, {Mode: coarse}} {
		next(t, "three calm steps", p, calm, want)
		p = mode.Next(p, calm)
	}
	good := api.Seen{Gyro: true, Slow: true, Pair: true, Lit: true}
	for _, want := range []api.Plan{{Mode: coarse, Good: 1}, {Mode: fine}} {
		next(t, "two good ones", p, good, want)
		p = mode.Next(p, good)
	}
	next(t, "a gap", p, api.Seen{Gap: true}, api.Plan{Mode: coarse, Faults: 1})
}

// The first rule: order 1 leads to Safe, whatever else there is.
func TestOrderSafe(t *testing.T) {
	for _, m := range append([]int{detumble, coarse, fine, safe}, noModes()...) {
		for _, s := range every() {
			s.Order = 1
			for _, faults := range faultsAhead() {
				goes(t, "counts", api.Plan{Mode: m, Calm: 1, Good: 2, Miss: 3, Lost: 4, Faults: faults}, s, safe, faults)
			}
			goes(t, "no counts", api.Plan{Mode: m}, s, safe, 0)
			goes(t, "counts below 0", api.Plan{Mode: m, Calm: -1, Good: least, Miss: -3, Lost: -4, Faults: 9}, s, safe, 9)
			goes(t, "counts above 100", api.Plan{Mode: m, Calm: 101, Good: 102, Miss: greatest, Lost: 104, Faults: 9}, s, safe, 9)
		}
	}
}

// The second rule: order 2 leads out of Safe, without faults and without counts, whatever else is decided.
func TestSafeIsWoken(t *testing.T) {
	for _, s := range every() {
		s.Order = 2
		for _, faults := range faultsAhead() {
			goes(t, "no counts", api.Plan{Mode: safe, Faults: faults}, s, detumble, 0)
			goes(t, "counts", api.Plan{Mode: safe, Calm: 1, Good: 2, Miss: 3, Lost: 4, Faults: faults}, s, detumble, 0)
			goes(t, "counts at the ends", api.Plan{Mode: safe, Calm: least, Good: greatest, Miss: -1, Lost: 100, Faults: faults}, s, detumble, 0)
		}
	}
}

// Else nothing changes in Safe, the counts neither.
func TestSafeStays(t *testing.T) {
	for _, s := range every() {
		for _, s.Order = range notSafe() {
			if s.Order == 2 {
				continue
			}
			for _, faults := range faultsAhead() {
				stays(t, "no counts", api.Plan{Mode: safe, Faults: faults}, s)
				stays(t, "counts", api.Plan{Mode: safe, Calm: 1, Good: 2, Miss: 3, Lost: 4, Faults: faults}, s)
			}
			stays(t, "counts that lead on elsewhere", api.Plan{Mode: safe, Calm: 3, Good: 2, Miss: 5, Lost: 3}, s)
			stays(t, "counts at the ends", api.Plan{Mode: safe, Calm: least, Good: greatest, Miss: -1, Lost: 101}, s)
		}
	}
}

// count: what is there ahead of a step, and what becomes of it.
type count struct {
	ahead, behind int
}

// countsBelow: what counting makes of counts that don't come to an end at which it leads on.
func countsBelow(end int) []count {
	some := []count{{-1, 0}, {-2, -1}, {-100, -99}, {-101, -100}, {-1 << 32, -1<<32 + 1}, {least, least + 1}, {least + 1, least + 2}}
	for n := range end - 1 {
		some = append(some, count{n, n + 1})
	}
	return some
}

// countsTo: counts that come to an end at which it leads on, or past it.
func countsTo(end int) []int {
	return []int{end - 1, end, end + 1, 50, 98, 99, 100, 101, 102, 1000, 1 << 31, 1 << 32, 1<<32 - 1, greatest - 1, greatest}
}

// The third rule: calm steps are counted.
func TestDetumbleCountsCalm(t *testing.T) {
	for _, s := range those(func(s api.Seen) bool { return s.Gyro && s.Slow }) {
		for _, s.Order = range notSafe() {
			for _, c := range countsBelow(3) {
				next(t, "calm", api.Plan{Calm: c.ahead}, s, api.Plan{Calm: c.behind})
				next(t, "calm, other counts stay", api.Plan{Calm: c.ahead, Good: 2, Miss: -7, Lost: greatest, Faults: 37}, s, api.Plan{Calm: c.behind, Good: 2, Miss: -7, Lost: greatest, Faults: 37})
			}
			for _, ahead := range countsTo(3) {
				goes(t, "calm enough", api.Plan{Calm: ahead}, s, coarse, 0)
				goes(t, "calm enough, other counts are 0", api.Plan{Calm: ahead, Good: 1, Miss: -7, Lost: 101, Faults: 37}, s, coarse, 37)
			}
		}
	}
}

// A step that isn't calm begins anew, even where Calm would lead on.
func TestDetumbleBeginsAnew(t *testing.T) {
	for _, s := range those(func(s api.Seen) bool { return !s.Gyro || !s.Slow }) {
		for _, s.Order = range notSafe() {
			for _, ahead := range []int{-1, 0, 1, 2, 3, 4, 99, 100, 101, least, greatest} {
				next(t, "not calm", api.Plan{Calm: ahead}, s, api.Plan{})
				next(t, "not calm, other counts stay", api.Plan{Calm: ahead, Good: 1, Miss: 5, Lost: least, Faults: -3}, s, api.Plan{Good: 1, Miss: 5, Lost: least, Faults: -3})
			}
		}
	}
}

// The fourth rule: a gap is ahead of all that is seen besides, in Coarse and in Fine.
func TestGap(t *testing.T) {
	for _, m := range []int{coarse, fine} {
		for _, s := range those(func(s api.Seen) bool { return s.Gap }) {
			for _, s.Order = range notSafe() {
				goes(t, "gap", api.Plan{Mode: m}, s, coarse, gap)
				goes(t, "gap, counts", api.Plan{Mode: m, Calm: 1, Good: 1, Miss: 1, Lost: 1}, s, coarse, gap)
				goes(t, "gap, counts that lead on", api.Plan{Mode: m, Calm: 3, Good: 2, Miss: 5, Lost: 3, Faults: gate}, s, coarse, gap+gate)
				goes(t, "gap, counts at the ends", api.Plan{Mode: m, Calm: least, Good: greatest, Miss: greatest, Lost: least, Faults: 16}, s, coarse, 17)
			}
		}
	}
}

// The fifth rule: where the gyro is there and isn't slow, all else plays no part.
func TestCoarseGoesBackToDetumble(t *testing.T) {
	for _, s := range those(func(s api.Seen) bool { return !s.Gap && s.Gyro && !s.Slow }) {
		for _, s.Order = range notSafe() {
			for _, good := range []int{0, 1, 2, 3, -1, 99, 100, least, greatest} {
				goes(t, "not slow", api.Plan{Mode: coarse, Good: good}, s, detumble, 0)
				goes(t, "not slow, counts", api.Plan{Mode: coarse, Calm: 2, Good: good, Miss: 4, Lost: -2, Faults: 50}, s, detumble, 50)
			}
		}
	}
}

func TestCoarseCountsGood(t *testing.T) {
	for _, s := range those(func(s api.Seen) bool { return !s.Gap && s.Gyro && s.Slow && s.Pair && s.Lit }) {
		for _, s.Order = range notSafe() {
			for _, c := range countsBelow(2) {
				next(t, "good", api.Plan{Mode: coarse, Good: c.ahead}, s, api.Plan{Mode: coarse, Good: c.behind})
				next(t, "good, other counts stay", api.Plan{Mode: coarse, Calm: 3, Good: c.ahead, Miss: -7, Lost: greatest, Faults: 37}, s, api.Plan{Mode: coarse, Calm: 3, Good: c.behind, Miss: -7, Lost: greatest, Faults: 37})
			}
			for _, ahead := range countsTo(2) {
				goes(t, "good enough", api.Plan{Mode: coarse, Good: ahead}, s, fine, 0)
				goes(t, "good enough, other counts are 0", api.Plan{Mode: coarse, Calm: 2, Good: ahead, Miss: 5, Lost: 3, Faults: 37}, s, fine, 37)
			}
		}
	}
}

// One of the gyro, Pair and Lit is missing: it begins anew. Slow says nothing where the gyro isn't there.
func TestCoarseBeginsAnew(t *testing.T) {
	for _, s := range those(func(s api.Seen) bool {
		return !s.Gap && (!s.Gyro || s.Slow && (!s.Pair || !s.Lit))
	}) {
		for _, s.Order = range notSafe() {
			for _, good := range []int{-1, 0, 1, 2, 3, 99, 100, 101, least, greatest} {
				next(t, "not good", api.Plan{Mode: coarse, Good: good}, s, api.Plan{Mode: coarse})
				next(t, "not good, other counts stay", api.Plan{Mode: coarse, Calm: 7, Good: good, Miss: 5, Lost: least, Faults: -3}, s, api.Plan{Mode: coarse, Calm: 7, Miss: 5, Lost: least, Faults: -3})
			}
		}
	}
}

// Each missing one by itself.
func TestCoarseWithoutOne(t *testing.T) {
	p := api.Plan{Mode: coarse, Good: 1}
	goes(t, "nothing missing", p, api.Seen{Gyro: true, Slow: true, Pair: true, Lit: true}, fine, 0)
	next(t, "no gyro", p, api.Seen{Slow: true, Pair: true, Lit: true}, api.Plan{Mode: coarse})
	next(t, "no pair", p, api.Seen{Gyro: true, Slow: true, Lit: true}, api.Plan{Mode: coarse})
	next(t, "not lit", p, api.Seen{Gyro: true, Slow: true, Pair: true}, api.Plan{Mode: coarse})
	goes(t, "not slow", p, api.Seen{Gyro: true, Pair: true, Lit: true}, detumble, 0)
	next(t, "no gyro, not slow", p, api.Seen{Pair: true, Lit: true}, api.Plan{Mode: coarse})
	goes(t, "what the filter says", p, api.Seen{Gyro: true, Slow: true, Pair: true, Lit: true, Bad: true}, fine, 0)
}

// The sixth rule: what is bad is ahead of what is lost and of what is missed.
func TestFineBad(t *testing.T) {
	for _, s := range those(func(s api.Seen) bool { return !s.Gap && s.Bad }) {
		for _, s.Order = range notSafe() {
			for _, n := range []int{0, 1, 2, 3, 4, 5, 100, -1, least, greatest} {
				goes(t, "bad", api.Plan{Mode: fine, Miss: n, Lost: n}, s, coarse, filter)
				goes(t, "bad, counts", api.Plan{Mode: fine, Calm: 2, Good: n, Miss: 4, Lost: 2, Faults: gap + 64}, s, coarse, gap+filter+64)
			}
		}
	}
}

func TestFineLosesTheGyro(t *testing.T) {
	for _, s := range those(func(s api.Seen) bool { return !s.Gap && !s.Bad && !s.Gyro }) {
		for _, s.Order = range notSafe() {
			for _, ahead := range countsTo(3) {
				goes(t, "lost", api.Plan{Mode: fine, Lost: ahead}, s, coarse, gyro)
				// Misses that would lead on, too, are behind it, and add no fault.
				for _, miss := range []int{0, 3, 4, 5, greatest} {
					goes(t, "lost, counts", api.Plan{Mode: fine, Calm: 1, Good: 1, Miss: miss, Lost: ahead, Faults: 32}, s, coarse, gyro+32)
				}
			}
			if s.Pair && s.Lit {
				continue
			}
			for _, c := range countsBelow(3) {
				next(t, "lost a while", api.Plan{Mode: fine, Lost: c.ahead}, s, api.Plan{Mode: fine, Lost: c.behind})
				next(t, "lost a while, other counts stay", api.Plan{Mode: fine, Calm: 9, Good: -9, Miss: 4, Lost: c.ahead, Faults: 32}, s, api.Plan{Mode: fine, Calm: 9, Good: -9, Miss: 4, Lost: c.behind, Faults: 32})
			}
		}
	}
}

// The gyro is there: nothing is lost, whatever Lost was.
func TestFineHasTheGyro(t *testing.T) {
	for _, s := range those(func(s api.Seen) bool { return !s.Gap && !s.Bad && s.Gyro && !(s.Pair && s.Lit) }) {
		for _, s.Order = range notSafe() {
			for _, lost := range []int{-1, 0, 1, 2, 3, 4, 99, 100, 101, least, greatest} {
				next(t, "gyro", api.Plan{Mode: fine, Lost: lost}, s, api.Plan{Mode: fine})
				next(t, "gyro, other counts stay", api.Plan{Mode: fine, Calm: 3, Good: 2, Miss: 1, Lost: lost, Faults: 21}, s, api.Plan{Mode: fine, Calm: 3, Good: 2, Miss: 1, Faults: 21})
			}
		}
	}
}

// lostBehind: what becomes of a Lost of 1, where it leads nowhere.
func lostBehind(s api.Seen) int {
	if s.Gyro {
		return 0
	}
	return 2
}

// Where Pair and Lit are there, and what is seen isn't taken, it is missed.
func TestFineMisses(t *testing.T) {
	for _, s := range those(func(s api.Seen) bool { return !s.Gap && !s.Bad && s.Pair && s.Lit && !s.Pass }) {
		lost := lostBehind(s)
		for _, s.Order = range notSafe() {
			for _, c := range countsBelow(5) {
				next(t, "missed", api.Plan{Mode: fine, Miss: c.ahead, Lost: 1}, s, api.Plan{Mode: fine, Miss: c.behind, Lost: lost})
				next(t, "missed, other counts stay", api.Plan{Mode: fine, Calm: 3, Good: -2, Miss: c.ahead, Lost: 1, Faults: 33}, s, api.Plan{Mode: fine, Calm: 3, Good: -2, Miss: c.behind, Lost: lost, Faults: 33})
			}
			for _, ahead := range countsTo(5) {
				goes(t, "missed too often", api.Plan{Mode: fine, Miss: ahead, Lost: 1}, s, coarse, gate)
				goes(t, "missed too often, counts", api.Plan{Mode: fine, Calm: 3, Good: -2, Miss: ahead, Lost: -1, Faults: 33}, s, coarse, gate+33)
			}
		}
	}
}

func TestFineTakes(t *testing.T) {
	for _, s := range those(func(s api.Seen) bool { return !s.Gap && !s.Bad && s.Pair && s.Lit && s.Pass }) {
		lost := lostBehind(s)
		for _, s.Order = range notSafe() {
			for _, miss := range []int{-1, 0, 1, 3, 4, 5, 6, 99, 100, 101, least, greatest} {
				next(t, "taken", api.Plan{Mode: fine, Miss: miss, Lost: 1}, s, api.Plan{Mode: fine, Lost: lost})
				next(t, "taken, other counts stay", api.Plan{Mode: fine, Calm: 3, Good: -2, Miss: miss, Lost: 1, Faults: 33}, s, api.Plan{Mode: fine, Calm: 3, Good: -2, Lost: lost, Faults: 33})
			}
		}
	}
}

// Where Pair or Lit is missing, Miss is as it was, and leads nowhere, however great it is.
func TestFineMissesNothingUnseen(t *testing.T) {
	for _, s := range those(func(s api.Seen) bool { return !s.Gap && !s.Bad && !(s.Pair && s.Lit) }) {
		lost := lostBehind(s)
		for _, s.Order = range notSafe() {
			for _, miss := range []int{-1, 0, 1, 3, 4, 5, 6, 99, 100, 101, least, greatest} {
				next(t, "unseen", api.Plan{Mode: fine, Miss: miss, Lost: 1}, s, api.Plan{Mode: fine, Miss: miss, Lost: lost})
				next(t, "unseen, other counts stay", api.Plan{Mode: fine, Calm: 3, Good: 2, Miss: miss, Lost: 1, Faults: 8}, s, api.Plan{Mode: fine, Calm: 3, Good: 2, Miss: miss, Lost: lost, Faults: 8})
			}
		}
	}
}

// Of several faults in Fine the first one alone is added: gap, filter, gyro, gate.
func TestFineFaultsInTheirOrder(t *testing.T) {
	p := api.Plan{Mode: fine, Miss: 4, Lost: 2}
	s := api.Seen{Gap: true, Bad: true, Pair: true, Lit: true}
	goes(t, "all", p, s, coarse, gap)
	s.Gap = false
	goes(t, "no gap", p, s, coarse, filter)
	s.Bad = false
	goes(t, "not bad", p, s, coarse, gyro)
	s.Gyro = true
	goes(t, "not lost", p, s, coarse, gate)
	s.Pass = true
	next(t, "not missed", p, s, api.Plan{Mode: fine})
}

// Faults are added to those that there are, and what is there already stays so; bits beside the four stay, too.
func TestFaultsAreAdded(t *testing.T) {
	for _, x := range []struct {
		name  string
		p     api.Plan
		s     api.Seen
		fault int
	}{
		{"gap in Coarse", api.Plan{Mode: coarse, Good: 1}, api.Seen{Gap: true}, gap},
		{"gap in Fine", api.Plan{Mode: fine, Lost: 2}, api.Seen{Gap: true}, gap},
		{"filter", api.Plan{Mode: fine}, api.Seen{Bad: true}, filter},
		{"gyro", api.Plan{Mode: fine, Lost: 2}, api.Seen{}, gyro},
		{"gate", api.Plan{Mode: fine, Miss: 4}, api.Seen{Gyro: true, Pair: true, Lit: true}, gate},
	} {
		for ahead := range 64 {
			x.p.Faults = ahead
			behind := ahead
			if ahead/x.fault%2 == 0 {
				behind += x.fault
			}
			goes(t, x.name, x.p, x.s, coarse, behind)
		}
		for _, c := range []count{{-1, -1}, {-16, x.fault - 16}, {least, least + x.fault}, {greatest, greatest}, {greatest - 15, greatest - 15 + x.fault}, {1 << 40, 1<<40 + x.fault}} {
			x.p.Faults = c.ahead
			goes(t, x.name, x.p, x.s, coarse, c.behind)
		}
	}
}

// Where no fault is met, those that there are stay: on the way on, on the way back, and in a mode.
func TestFaultsStay(t *testing.T) {
	for _, faults := range faultsAhead() {
		next(t, "in Detumble", api.Plan{Faults: faults}, well(), api.Plan{Calm: 1, Faults: faults})
		goes(t, "to Coarse", api.Plan{Calm: 2, Faults: faults}, well(), coarse, faults)
		goes(t, "to Fine", api.Plan{Mode: coarse, Good: 1, Faults: faults}, well(), fine, faults)
		stays(t, "in Fine", api.Plan{Mode: fine, Faults: faults}, well())
		goes(t, "back to Detumble", api.Plan{Mode: coarse, Good: 1, Faults: faults}, api.Seen{Gyro: true}, detumble, faults)
		for _, m := range noModes() {
			goes(t, "no mode", api.Plan{Mode: m, Faults: faults}, well(), safe, faults)
		}
	}
}

// The seventh rule: what is no mode goes to Safe; order 2 plays no part, nor does a gap.
func TestOtherModes(t *testing.T) {
	for _, m := range noModes() {
		for _, s := range every() {
			for _, s.Order = range notSafe() {
				goes(t, "no counts", api.Plan{Mode: m}, s, safe, 0)
				goes(t, "counts", api.Plan{Mode: m, Calm: 3, Good: 2, Miss: 5, Lost: -3, Faults: 54}, s, safe, 54)
			}
		}
	}
}
