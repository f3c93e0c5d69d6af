package mode_test

import (
	"testing"

	"alidade/api"
	"alidade/mode"
)

// The chapter's rules, laid out as lines: each has all that is to hold for it, and no line leans on the ones ahead of it. So just one of them applies.

// line: when it applies, and what is behind the step then: a mode to which it goes and a fault, or counts that change in the mode.
type line struct {
	name    string
	applies bool
	goes    bool
	to      int
	wakes   bool
	fault   int
	change  func(p *api.Plan)
}

// more: n and one; 100 of 100 and above.
func more(n int) int { return min(n, 99) + 1 }

// reaches: does n, counted, come to an end?
func reaches(n, end int) bool { return n > end-2 }

func nothing(*api.Plan) {}

// linesOf: the lines that lie in Safe, in Detumble and in what is no mode.
func linesOf(p api.Plan, s api.Seen) []line {
	free := s.Order != 1
	tumbles, sleeps := free && p.Mode == 0, free && p.Mode == 3
	calm := s.Gyro && s.Slow
	return []line{
		{name: "1", applies: s.Order == 1, goes: true, to: 3},
		{name: "2: woken", applies: sleeps && s.Order == 2, goes: true, to: 0, wakes: true},
		{name: "2: else", applies: sleeps && s.Order != 2, change: nothing},
		{name: "3: calm", applies: tumbles && calm && !reaches(p.Calm, 3), change: func(p *api.Plan) { p.Calm = more(p.Calm) }},
		{name: "3: calm enough", applies: tumbles && calm && reaches(p.Calm, 3), goes: true, to: 1},
		{name: "3: not calm", applies: tumbles && !calm, change: func(p *api.Plan) { p.Calm = 0 }},
		{name: "4: Coarse", applies: free && p.Mode == 1 && s.Gap, goes: true, to: 1, fault: 1},
		{name: "4: Fine", applies: free && p.Mode == 2 && s.Gap, goes: true, to: 1, fault: 1},
		{name: "7", applies: free && (p.Mode < 0 || p.Mode > 3), goes: true, to: 3},
	}
}

// linesOfCoarse: those of the fifth rule.
func linesOfCoarse(p api.Plan, s api.Seen) []line {
	here := s.Order != 1 && p.Mode == 1 && !s.Gap
	quick := s.Gyro && !s.Slow
	good := s.Gyro && s.Slow && s.Pair && s.Lit
	return []line{
		{name: "5: not slow", applies: here && quick, goes: true, to: 0},
		{name: "5: good", applies: here && good && !reaches(p.Good, 2), change: func(p *api.Plan) { p.Good = more(p.Good) }},
		{name: "5: good enough", applies: here && good && reaches(p.Good, 2), goes: true, to: 2},
		{name: "5: not good", applies: here && !quick && !good, change: func(p *api.Plan) { p.Good = 0 }},
	}
}

// linesOfFine: those of the sixth rule.
func linesOfFine(p api.Plan, s api.Seen) []line {
	here := s.Order != 1 && p.Mode == 2 && !s.Gap
	gone := !s.Gyro && reaches(p.Lost, 3)
	on := here && !s.Bad && !gone
	seen := s.Pair && s.Lit
	lost := func(p *api.Plan) {
		p.Lost = more(p.Lost)
		if s.Gyro {
			p.Lost = 0
		}
	}
	return []line{
		{name: "6: bad", applies: here && s.Bad, goes: true, to: 1, fault: 4},
		{name: "6: lost", applies: here && !s.Bad && gone, goes: true, to: 1, fault: 2},
		{name: "6: unseen", applies: on && !seen, change: lost},
		{name: "6: taken", applies: on && seen && s.Pass, change: func(p *api.Plan) { lost(p); p.Miss = 0 }},
		{name: "6: missed", applies: on && seen && !s.Pass && !reaches(p.Miss, 5), change: func(p *api.Plan) { lost(p); p.Miss = more(p.Miss) }},
		{name: "6: missed too often", applies: on && seen && !s.Pass && reaches(p.Miss, 5), goes: true, to: 1, fault: 8},
	}
}

// behind: the plan behind a line.
func (l line) behind(p api.Plan) api.Plan {
	if !l.goes {
		l.change(&p)
		return p
	}
	faults := p.Faults
	if l.fault != 0 && faults&l.fault == 0 {
		faults += l.fault
	}
	if l.wakes {
		faults = 0
	}
	return api.Plan{Mode: l.to, Faults: faults}
}

// compare holds Next against the one line that applies, and answers its name.
func compare(t *testing.T, p api.Plan, s api.Seen) string {
	t.Helper()
	all := append(append(linesOf(p, s), linesOfCoarse(p, s)...), linesOfFine(p, s)...)
	var found *line
	for i := range all {
		if !all[i].applies {
			continue
		}
		if found != nil {
			t.Fatalf("%+v, %+v: both %s and %s", p, s, found.name, all[i].name)
		}
		found = &all[i]
	}
	if found == nil {
		t.Fatalf("%+v, %+v: no line", p, s)
	}
	if got, want := mode.Next(p, s), found.behind(p); got != want {
		t.Fatalf("%s: Next(%+v, %+v): %+v; want %+v", found.name, p, s, got, want)
	}
	return found.name
}

// met: how often each line was compared.
type met map[string]int

// all tells lines that were hardly compared.
func (m met) all(t *testing.T, least int) {
	t.Helper()
	for _, l := range append(append(linesOf(api.Plan{}, api.Seen{}), linesOfCoarse(api.Plan{}, api.Seen{})...), linesOfFine(api.Plan{}, api.Seen{})...) {
		if m[l.name] < least {
			t.Errorf("%s: met %d times", l.name, m[l.name])
		}
	}
}

// Each count at its edges, beside counts of all kinds, in each mode, by all ways to decide.
func TestNextByLines(t *testing.T) {
	times := met{}
	edges := []int{least, -100, -2, -1, 0, 1, 2, 3, 4, 5, 6, 98, 99, 100, 101, greatest}
	beside := []int{-5, 0, 1, 77}
	for _, m := range []int{detumble, coarse, fine, safe, -1, 4} {
		for _, order := range []int{0, 1, 2, 3} {
			for _, s := range every() {
				s.Order = order
				for _, edge := range edges {
					for i, other := range beside {
						faults := []int{0, 15, -1, 70}[i]
						times[compare(t, api.Plan{Mode: m, Calm: edge, Good: other, Miss: other, Lost: other, Faults: faults}, s)]++
						times[compare(t, api.Plan{Mode: m, Calm: other, Good: edge, Miss: other, Lost: other, Faults: faults}, s)]++
						times[compare(t, api.Plan{Mode: m, Calm: other, Good: other, Miss: edge, Lost: 1, Faults: faults}, s)]++
						times[compare(t, api.Plan{Mode: m, Calm: other, Good: other, Miss: other, Lost: edge, Faults: faults}, s)]++
					}
				}
			}
		}
	}
	times.all(t, 500)
}

// dice: numbers that look thrown, and are the same each time.
type dice uint64

func (d *dice) next() uint64 {
	*d += 0x9E3779B97F4A7C15
	z := uint64(*d)
	z = (z ^ z>>30) * 0xBF58476D1CE4E5B9
	z = (z ^ z>>27) * 0x94D049BB133111EB
	return z ^ z>>31
}

func (d *dice) below(n int) int { return int(d.next() % uint64(n)) }

// integer: of any size: small ones are as frequent as great ones.
func (d *dice) integer() int { return int(d.next()) >> d.below(64) }

// seen: a way to decide, and an order that is mostly none.
func (d *dice) seen() api.Seen {
	s := decided(d.below(128))
	switch d.below(16) {
	case 0:
		s.Order = d.below(5)
	case 1:
		s.Order = d.integer()
	}
	return s
}

func TestNextOfThrownPlans(t *testing.T) {
	thrown := dice(151)
	times := met{}
	for range 200000 {
		p := api.Plan{Mode: thrown.below(4), Calm: thrown.integer(), Good: thrown.integer(), Miss: thrown.integer(), Lost: thrown.integer(), Faults: thrown.integer()}
		if thrown.below(8) == 0 {
			p.Mode = thrown.integer()
		}
		times[compare(t, p, thrown.seen())]++
	}
	times.all(t, 100)
}
