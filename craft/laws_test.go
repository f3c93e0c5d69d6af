package craft_test

import (
	"math/big"
	"strings"
	"testing"

	"alidade/api"
	"alidade/craft"
	"alidade/filter"
	"alidade/fixed"
	"alidade/mode"
	"alidade/orders"
	"alidade/vec"
)

// squared: the squares of an attitude's parts, all together.
func squared(q api.Quat) *big.Int {
	sum := new(big.Int)
	for _, a := range q {
		n := big.NewInt(a)
		sum.Add(sum, n.Mul(n, n))
	}
	return sum
}

// inRange holds P18.2 of a craft.
func inRange(t *testing.T, c api.Craft) {
	t.Helper()
	p := c.Plan
	if p.Mode < 0 || p.Mode > 3 || p.Faults < 0 || p.Faults > 15 {
		t.Fatalf("mode and faults: %+v", p)
	}
	// Those that would lead on have led on.
	most := map[int]api.Plan{api.Detumble: {Calm: 2}, api.Coarse: {Good: 1}, api.Fine: {Miss: 4, Lost: 2}, api.Safe: {}}[p.Mode]
	if min(p.Calm, p.Good, p.Miss, p.Lost) < 0 || p.Calm > most.Calm || p.Good > most.Good || p.Miss > most.Miss || p.Lost > most.Lost {
		t.Fatalf("counts: %+v", p)
	}
	if c.Rejects < 0 || c.Rejects > 65535 || c.Ack < 0 || c.Ack > 255 || c.Err < 0 || c.Err > 3 {
		t.Fatalf("rejects and the last order: %+v", c)
	}
	if p.Mode != api.Fine {
		if c.Guess != (api.Guess{}) {
			t.Fatalf("a guess outside of Fine: %+v", c)
		}
		return
	}
	// 2^-36 are 16 units.
	least, greatest := big.NewInt(one-16), big.NewInt(one+16)
	if n := squared(c.Guess.Q); n.Cmp(least.Mul(least, least)) < 0 || n.Cmp(greatest.Mul(greatest, greatest)) > 0 {
		t.Fatalf("not 1 long: %v", c.Guess.Q)
	}
	if s := c.Guess.P[0][0] + c.Guess.P[1][1] + c.Guess.P[2][2]; s > one/4 {
		t.Fatalf("spread %d: %+v", s, c.Guess)
	}
}

// bySteps: how often a journey went from one mode to another.
type bySteps map[[2]int]int

// often tells ways between modes that were hardly gone.
func (b bySteps) often(t *testing.T, least int, ways ...[2]int) {
	t.Helper()
	for _, w := range ways {
		if b[w] < least {
			t.Errorf("from %d to %d: %d times", w[0], w[1], b[w])
		}
	}
}

func allWays() [][2]int {
	return [][2]int{{0, 0}, {0, 1}, {1, 0}, {1, 1}, {1, 2}, {2, 1}, {2, 2}, {0, 3}, {1, 3}, {2, 3}, {3, 3}, {3, 0}}
}

// Modes, counts, faults, acknowledgements and what is told follow layer 15 by what was decided, which is known by the way in which the bytes were made.
func TestTheAutomaton(t *testing.T) {
	ways, faults := bySteps{}, map[int]int{}
	travel(t, 181, 320, 50, func(was api.Craft, s sent, now api.Craft, told api.Tell) {
		d := s.decided(was)
		if was.Plan.Mode == api.Fine && !d.Gap {
			d.Bad, d.Pass = filterSays(was, s, d)
		}
		plan := was.Plan
		if s.clear {
			plan.Faults = 0
		}
		if want := mode.Next(plan, d); now.Plan != want {
			t.Fatalf("%+v, %+v: %+v; want %+v", plan, d, now.Plan, want)
		}
		ack, err, rejects := answered(was, s)
		if now.Ack != ack || now.Err != err || now.Rejects != rejects {
			t.Fatalf("%+v, %+v: %+v; want %d, %d, %d", was, s, now, ack, err, rejects)
		}
		if told.Tick != s.b.tick || told.Mode != now.Plan.Mode || told.Faults != now.Plan.Faults || told.Ack != ack || told.Err != err || told.Rejects != rejects {
			t.Fatalf("%+v tells %+v", now, told)
		}
		if d.Gap && now.Plan.Mode == api.Fine {
			t.Fatalf("a gap didn't lead out of Fine: %+v", now)
		}
		if now.Plan.Mode == api.Fine && was.Plan.Mode != api.Fine {
			if was.Plan.Mode != api.Coarse || s.gyro == "" || s.sun == "" || s.mag == "" || s.quick {
				t.Fatalf("%+v, %+v: into Fine", was, s)
			}
		}
		inRange(t, now)
		ways[[2]int{was.Plan.Mode, now.Plan.Mode}]++
		faults[now.Plan.Faults&^plan.Faults]++
	})
	ways.often(t, 3, allWays()...)
	for _, fault := range []int{api.FaultGap, api.FaultGyro, api.FaultFilter, api.FaultGate} {
		if faults[fault] < 5 {
			t.Errorf("fault %d: %d times", fault, faults[fault])
		}
	}
}

// filterSays: whether the filter failed, and whether it took what it saw.
func filterSays(was api.Craft, s sent, d api.Seen) (bad, pass bool) {
	f := &fixed.Flow{}
	rate := was.Guess.Bias
	if s.gyro != "" {
		rate = reading(s.gyro).V
	}
	g := filter.Move(f, was.Guess, rate, s.intervals)
	if d.Pair && d.Lit {
		sky, _ := s.b.sky()
		g, _, pass = filter.Meet(f, g, sky, [2]api.Vec{reading(s.sun).V, reading(s.mag).V})
	}
	return f.Bad || g.P[0][0]+g.P[1][1]+g.P[2][2] > one/4, pass
}

// answered: Ack, Err and Rejects behind what was sent: orders came last.
func answered(was api.Craft, s sent) (ack, err, rejects int) {
	ack, err, rejects = was.Ack, was.Err, was.Rejects+s.rejected
	if s.garbage {
		rejects++
	}
	if s.last != "" {
		ack, err = int(s.last[0]), 0
		if code := s.last[1]; code < 1 || code > 4 {
			err = api.OrderCode
		}
	}
	if s.clear {
		rejects = 0
	}
	return ack, err, rejects
}

// The dipole is a fifth at most in each part, never along the field's change, and none outside of Detumble.
func TestTheCoils(t *testing.T) {
	times := map[bool]int{}
	strongest := 0
	thrown := dice(182)
	for range 60 {
		c := api.Craft{}
		tick := thrown.between(0, api.MaxTick-1000000)
		for range 60 {
			tick += thrown.between(10, 3000)
			bytes := says(api.KindMag, tick-thrown.between(0, 10), 1500-thrown.below(3000), 200+thrown.below(2000), thrown.below(3000))
			if thrown.of(3) {
				bytes += gyro(tick)
			}
			if thrown.of(4) {
				bytes = quickly(tick)
			}
			next, s := compare(t, c, tick, bytes)
			told, ok := tells(s)
			if !ok {
				t.Fatalf("%+v tells %X", next, s)
			}
			holdsCoils(t, next, told)
			times[told.Dipole != [3]int{}]++
			strongest = max(strongest, told.Dipole[0], told.Dipole[1], told.Dipole[2])
			c = next
		}
	}
	if times[true] < 500 || times[false] < 100 || strongest != 2000 {
		t.Errorf("%v, %d at most", times, strongest)
	}
	travel(t, 183, 60, 60, func(_ api.Craft, _ sent, now api.Craft, told api.Tell) { holdsCoils(t, now, told) })
}

func holdsCoils(t *testing.T, c api.Craft, told api.Tell) {
	t.Helper()
	if told.Mode != api.Detumble && told.Dipole != [3]int{} {
		t.Fatalf("outside of Detumble: %+v", told)
	}
	along := int64(0)
	for i, n := range told.Dipole {
		if n > 2000 || n < -2000 {
			t.Fatalf("more than a fifth: %+v", told)
		}
		rate := c.Drift.Rate[i]
		if n > 0 && rate >= 0 || n < 0 && rate <= 0 {
			t.Fatalf("along the change: %+v, of %v", told, c.Drift.Rate)
		}
		along += int64(n) * (rate >> 20)
	}
	if along > 0 {
		t.Fatalf("along the change: %+v, of %v", told, c.Drift.Rate)
	}
}

// Frames that are spoilt, out of range, stale or foreign change nothing but what is rejected, wherever they stand.
func TestWhatIsNothing(t *testing.T) {
	thrown := dice(184)
	changed := bySteps{}
	for range 60 {
		j := journey{dice: &thrown, b: thrown.body(), wild: 40}
		var c api.Craft
		for range 50 {
			s := j.send(c)
			want, told := craft.Step(c, s.b.tick, s.bytes)
			if s.clear {
				c = want
				continue
			}
			bytes, rejected, garbage := j.among(s)
			if garbage && !s.garbage {
				rejected++
			}
			got, tell := compare(t, c, s.b.tick, bytes)
			if got.Rejects != want.Rejects+rejected {
				t.Fatalf("%X beside %X: %d rejected; want %d", bytes, s.bytes, got.Rejects, want.Rejects+rejected)
			}
			got.Rejects = want.Rejects
			if got != want {
				t.Fatalf("%X beside %X: %+v; want %+v", bytes, s.bytes, got, want)
			}
			first, _ := tells(told)
			second, _ := tells(tell)
			second.Rejects -= rejected
			if second != first {
				t.Fatalf("%X beside %X: %+v; want %+v", bytes, s.bytes, second, first)
			}
			changed[[2]int{c.Plan.Mode, want.Plan.Mode}]++
			c = want
		}
	}
	changed.often(t, 20, [2]int{0, 0}, [2]int{0, 1}, [2]int{1, 1}, [2]int{1, 2}, [2]int{2, 2})
}

// among: what was sent, with nothings ahead of it, behind it and among it.
func (j journey) among(s sent) (bytes string, rejected int, garbage bool) {
	add := func() {
		for range 1 + j.below(2) {
			more, r, g := j.nothing(s.b.tick)
			bytes += more
			rejected += r
			garbage = garbage || g
		}
	}
	add()
	rest := s.bytes
	// Each frame of what was sent ends where the next one begins, or where bytes are passed over.
	for rest != "" {
		n := 1
		if rest[0] == 0xA5 && len(rest) > 5 && int(rest[2]) <= api.MaxData && len(rest) >= int(rest[2])+5 {
			n = int(rest[2]) + 5
		}
		bytes, rest = bytes+rest[:n], rest[n:]
		if n > 1 && !s.garbage {
			add()
		}
	}
	add()
	return bytes, rejected, garbage
}

// comesToSee holds P0.5 of a body and of the times between its steps: Fine within 16 steps, and it stays so, with the true attitude but for a sixteenth.
func comesToSee(t *testing.T, c api.Craft, b body, times []int64) (worst int64) {
	t.Helper()
	x, ok := orders.Write(api.Order{Seq: 1, Code: api.OrderOrbit, Orbit: b.o})
	if !ok {
		t.Fatal("no order")
	}
	bytes := wrapped(x.Kind, x.Data)
	arrived := false
	for i, ms := range times {
		c, _ = craft.Step(c, b.tick, bytes+b.all())
		bytes = ""
		arrived = arrived || c.Plan.Mode == api.Fine
		if c.Plan.Mode != api.Fine && (arrived || i >= 15) {
			t.Fatalf("%+v, times %v: step %d: %+v", b, times, i, c.Plan)
		}
		if arrived {
			worst = max(worst, off(c.Guess.Q, b.q))
			inRange(t, c)
		}
		b = b.later(ms)
	}
	if worst > one/16 {
		t.Fatalf("%+v, times %v: off by %d", b, times, worst)
	}
	return worst
}

// seesWell: is the sun seen, and stands it well from the field, at all of these times?
func seesWell(b body, times []int64) bool {
	f := &fixed.Flow{}
	for _, ms := range times {
		sky, dark := b.sky()
		sine, _ := vec.Parts(f, sky[0], sky[1])
		// Some more than 10 degrees, for sensors round.
		if dark || sine < one/5 {
			return false
		}
		b = b.later(ms)
	}
	return true
}

func repeated(ms int64, n int) (times []int64) {
	for range n {
		times = append(times, ms)
	}
	return times
}

func TestItComesToSee(t *testing.T) {
	for _, ms := range []int64{10, 100, 500, 2000, 10000} {
		for _, b := range []body{still(seen), slowly(seen)} {
			if !seesWell(b, repeated(ms, 100)) {
				t.Fatal(ms)
			}
			comesToSee(t, api.Craft{}, b, repeated(ms, 100))
		}
	}
}

// All over the sky, the five years, the orbits and the slow turns.
func TestItComesToSeeEverywhere(t *testing.T) {
	thrown := dice(185)
	turned := map[bool]int{}
	for turned[true] < 60 || turned[false] < 30 {
		b := thrown.body()
		times := repeated([]int64{10, 50, 200, 500, 1000, 3000, 10000}[thrown.below(7)], 50)
		if thrown.of(3) {
			for i := range times {
				times[i] = thrown.between(10, 10000)
			}
		}
		if !seesWell(b, times) {
			continue
		}
		comesToSee(t, api.Craft{}, b, times)
		turned[b.rate != [3]int{}]++
	}
}

// From whatever was ahead of it, but Safe: tumbling, gaps, nonsense.
func TestItComesToSeeFromEverywhere(t *testing.T) {
	from := map[int]int{}
	thrown := dice(186)
	for from[0] < 10 || from[1] < 10 || from[2] < 10 {
		j := journey{dice: &thrown, b: thrown.body(), wild: 6}
		var c api.Craft
		for range thrown.below(30) {
			s := j.send(c)
			c, _ = craft.Step(c, s.b.tick, s.bytes)
		}
		b := j.b.later(500)
		b.q = thrown.attitude()
		times := repeated(500, 40)
		if c.Plan.Mode == api.Safe || !seesWell(b, times) {
			continue
		}
		if fineWithin(t, c, b, times) {
			from[c.Plan.Mode]++
		}
	}
}

// fineWithin: is it Fine from the sixteenth step on, with the true attitude?
func fineWithin(t *testing.T, c api.Craft, b body, times []int64) bool {
	t.Helper()
	x, _ := orders.Write(api.Order{Seq: 1, Code: api.OrderOrbit, Orbit: b.o})
	bytes := wrapped(x.Kind, x.Data)
	for i, ms := range times {
		c, _ = craft.Step(c, b.tick, bytes+b.all())
		bytes = ""
		if i >= 15 && (c.Plan.Mode != api.Fine || off(c.Guess.Q, b.q) > one/16) {
			t.Fatalf("%+v: step %d: %+v, off by %d", b, i, c.Plan, off(c.Guess.Q, b.q))
		}
		b = b.later(ms)
	}
	return true
}

// From the zero value, whatever comes: thrown bytes, frames of thrown data, ticks that go back or aren't right.
func TestWhateverComes(t *testing.T) {
	thrown := dice(187)
	for range 200 {
		var c api.Craft
		tick := thrown.between(0, api.MaxTick)
		for range 40 {
			at := tick
			if thrown.of(10) {
				at = thrown.integer()
			}
			next, s := compare(t, c, at, thrown.anything(tick))
			if s == "" && next != c {
				t.Fatalf("%+v: nothing is told of %+v", c, next)
			}
			inRange(t, next)
			c = next
			tick = min(tick+thrown.between(0, 1000), api.MaxTick)
		}
	}
}

// anything: bytes, frames of all kinds, cut and put together.
func (d *dice) anything(tick int64) string {
	var all strings.Builder
	for range d.below(6) {
		s := d.text(d.below(10))
		switch d.below(6) {
		case 0:
			s = wrapped(d.below(256), d.text(d.below(65)))
		case 1:
			s = wrapped([]int{1, 3}[d.below(2)], says(1, tick)[3:9]+d.text(6))
		case 2:
			s = wrapped(2, says(1, tick)[3:9]+d.text(12))
		case 3:
			s = wrapped(16, d.text(1)+string([]byte{byte(d.below(6))}))
		case 4:
			s = order(d.below(256), 1+d.below(4))
		}
		if d.of(8) {
			s = s[:d.below(len(s)+1)]
		}
		all.WriteString(s)
	}
	return all.String()
}

// Of any craft: each part of it thrown, or at an edge.
func TestAnyCraft(t *testing.T) {
	thrown := dice(188)
	told := map[bool]int{}
	ways := bySteps{}
	for range 3000 {
		j := journey{dice: &thrown, b: thrown.body(), wild: 12}
		c := thrown.craft(j.b)
		s := j.send(c)
		next, bytes := compare(t, c, s.b.tick, s.bytes)
		told[bytes != ""]++
		ways[[2]int{c.Plan.Mode, next.Plan.Mode}]++
		if thrown.of(4) {
			compare(t, c, thrown.integer(), s.bytes+thrown.anything(s.b.tick))
		}
	}
	if told[true] < 500 || told[false] < 100 {
		t.Errorf("told: %v", told)
	}
	ways.often(t, 3, allWays()...)
}

// craft: one that no steps lead to, which stands near the body or not.
func (d *dice) craft(b body) api.Craft {
	c := api.Craft{On: !d.of(5), Tick: b.tick, Placed: !d.of(8), Orbit: b.o, Ack: d.below(256), Err: d.below(4), Rejects: d.below(65536)}
	c.Plan = api.Plan{Mode: d.below(4), Calm: d.below(4), Good: d.below(3), Miss: d.below(6), Lost: d.below(4), Faults: d.below(16)}
	c.Guess = filter.Start(b.q)
	c.Guess.Bias = api.Vec{d.between(-one/100, one/100), d.between(-one/100, one/100), d.between(-one/100, one/100)}
	c.Drift = api.Drift{On: d.of(2), Tick: b.tick - d.between(0, 2000), Last: api.Vec{d.between(-50*one, 50*one)}, Rate: api.Vec{0, d.between(-one, one), d.between(-one, one)}}
	for _, part := range []*int64{
		&c.Tick, &c.Orbit.A, &c.Orbit.M, &c.Drift.Tick, &c.Drift.Last[1], &c.Drift.Rate[0], &c.Guess.Q[0], &c.Guess.Q[3],
		&c.Guess.Bias[1], &c.Guess.P[0][0], &c.Guess.P[3][1], &c.Guess.P[5][5],
	} {
		if d.of(25) {
			*part = d.integer()
		}
	}
	for _, part := range []*int{&c.Plan.Mode, &c.Plan.Calm, &c.Plan.Good, &c.Plan.Miss, &c.Plan.Lost, &c.Plan.Faults, &c.Ack, &c.Err, &c.Rejects} {
		if d.of(40) {
			*part = int(d.integer())
		}
	}
	if d.of(5) {
		c.Left = d.anything(b.tick)
	}
	return c
}

// What is answered hangs on the arguments alone: whatever was asked ahead of it, it is the same, and no craft that was handed in is changed.
func TestOneAnswer(t *testing.T) {
	asked := func() (all []api.Craft, told []string) {
		thrown := dice(189)
		for range 300 {
			j := journey{dice: &thrown, b: thrown.body(), wild: 12}
			c := thrown.craft(j.b)
			s := j.send(c)
			held := c
			next, bytes := craft.Step(c, s.b.tick, s.bytes)
			if c != held {
				t.Fatalf("%+v was changed to %+v", held, c)
			}
			all, told = append(all, next), append(told, bytes)
		}
		return all, told
	}
	first, firstTold := asked()
	second, secondTold := asked()
	for i := range first {
		if first[i] != second[i] || firstTold[i] != secondTold[i] {
			t.Fatalf("%d: %+v, then %+v", i, first[i], second[i])
		}
	}
}
