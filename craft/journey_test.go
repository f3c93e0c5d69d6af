package craft_test

import (
	"testing"

	"alidade/api"
	"alidade/fixed"
	"alidade/frame"
	"alidade/orbit"
	"alidade/orders"
	"alidade/quat"
	"alidade/triad"
)

// dice: numbers that look thrown, and are the same each time.
type dice uint64

func (d *dice) next() uint64 {
	*d += 0x9E3779B97F4A7C15
	z := uint64(*d)
	z = (z ^ z>>30) * 0xBF58476D1CE4E5B9
	z = (z ^ z>>27) * 0x94D049BB133111EB
	return z ^ z>>31
}

func (d *dice) below(n int) int { return int(d.next() % uint64(n)) }

// of: one time of so many.
func (d *dice) of(n int) bool { return d.below(n) == 0 }

// between: from the first to the second.
func (d *dice) between(a, b int64) int64 { return a + int64(d.next()%uint64(b-a+1)) }

// integer: of any size: small ones are as frequent as great ones.
func (d *dice) integer() int64 { return int64(d.next()) >> d.below(64) }

// text: so many thrown bytes.
func (d *dice) text(n int) string {
	s := make([]byte, n)
	for i := range s {
		s[i] = byte(d.next())
	}
	return string(s)
}

// attitude: of any direction.
func (d *dice) attitude() api.Quat {
	for {
		f := &fixed.Flow{}
		q := quat.Unit(f, api.Quat{d.between(-one, one), d.between(-one, one), d.between(-one, one), d.between(-one, one)})
		if !f.Bad {
			return q
		}
	}
}

// elements: that are right.
func (d *dice) elements() api.Orbit {
	const h = 1727108826179
	for {
		o := api.Orbit{
			A: d.between(7232738120604, 9211859050600), E: d.between(0, 109951162777) * int64(d.below(2)), I: d.between(0, 2*h),
			Node: d.between(-4*h, 4*h), Peri: d.between(-4*h, 4*h), M: d.between(-4*h, 4*h), At: d.between(0, api.MaxTick),
		}
		if orbit.Right(o) {
			return o
		}
	}
}

// rate: a gyro's counts of a slow turn.
func (d *dice) rate() (r [3]int) {
	for {
		sum := 0
		for i := range r {
			r[i] = d.below(2*1638+1) - 1638
			sum += r[i] * r[i]
		}
		if sum <= 2684354 {
			return r
		}
	}
}

// body: anywhere, at any time of the five years.
func (d *dice) body() body {
	b := body{o: d.elements(), tick: d.between(0, api.MaxTick-10000000), q: d.attitude()}
	if !d.of(3) {
		b.rate = d.rate()
	}
	return b
}

// sent: what comes in a step, and what it says, by the way in which it was made.
type sent struct {
	b         body
	bytes     string
	gyro      string // the frame that counts, or none
	sun, mag  string
	quick     bool
	order     int
	clear     bool
	last      string // the last order's data, or none
	rejected  int    // frames alone
	garbage   bool
	elements  api.Orbit
	placed    bool
	intervals int64
}

// journey: a body, and how it is thrown about.
type journey struct {
	*dice
	b     body
	wild  int  // of how many frames one is spoilt
	long  bool // whether it makes long steps
	away  int  // the sensor that is away for a while, or none
	while int  // for how many steps
}

// interval: mostly half a second, or as long as may be; now and then a gap.
func (j journey) interval() int64 {
	edges := []int64{1, 9, 10, 11, 9999, 10000, 10001, 60000}
	switch {
	case j.of(3 * j.wild):
		return edges[j.below(len(edges))]
	case j.long:
		return j.between(5000, 10000)
	case j.of(4):
		return j.between(10, 3000)
	}
	return 500
}

// nothing: frames that count as absent: how many of them are rejected as such, and whether bytes are passed over.
func (j journey) nothing(tick int64) (s string, rejected int, garbage bool) {
	old := max(tick-j.between(501, 5000), 0)
	if tick-old <= 500 {
		old = tick + 1
	}
	switch j.below(9) {
	case 0:
		return says(api.KindGyro, tick, 30001+j.below(2000), 5), 1, false
	case 1:
		return says(api.KindSun, tick, j.below(2000), j.below(2000)), 1, false
	case 2:
		return says(api.KindMag, tick, 60, 50, -50), 1, false
	case 3:
		return says(api.KindGyro, old) + cells(old) + mag(old), 3, false
	case 4:
		return mag(tick + 1 + int64(j.below(1000))), 1, false
	case 5:
		return wrapped(17+j.below(200), j.text(j.below(64))), 1, false
	case 6:
		return wrapped(1+j.below(3), "\x00"+j.text(j.below(5))), 1, false
	case 7:
		return "zz", 0, true
	}
	return j.spoilt(gyro(tick) + order(3, api.OrderSafe)), 0, true
}

// spoilt: a frame and one behind it, each with a byte that is another: all of it is passed over.
func (j journey) spoilt(s string) string {
	for {
		y := []byte(s)
		y[j.below(17)] ^= byte(1 + j.below(255))
		y[17+j.below(len(s)-17)] ^= byte(1 + j.below(255))
		if found, left, _ := frame.Scan(string(y)); len(found) == 0 && left == "" {
			return string(y)
		}
	}
}

// reading: what a sensor says: mostly the truth; now and then nothing, or something else.
func (j journey) reading(truth string, other func() string) string {
	switch {
	case j.of(j.wild):
		return ""
	case j.of(2 * j.wild):
		return other()
	case j.of(2 * j.wild):
		return other() + truth
	}
	return truth
}

// leaves: now and then, in Fine, a sensor is away for a while.
func (j *journey) leaves(c api.Craft) {
	j.while--
	if j.while > 0 {
		return
	}
	j.away = 0
	if c.Plan.Mode == api.Fine && j.of(8) {
		j.away, j.while = []int{api.KindGyro, api.KindSun, api.KindMag}[j.below(3)], 2+j.below(14)
	}
}

// spoken: what the ground says, now and then.
func (j journey) spoken(s *sent) string {
	if s.b.o != s.elements && j.of(2) {
		s.elements, s.placed = s.b.o, true
		x, _ := orders.Write(api.Order{Seq: j.below(256), Code: api.OrderOrbit, Orbit: s.b.o})
		s.last = x.Data
		return wrapped(x.Kind, x.Data)
	}
	if !j.of(2 * j.wild) {
		return ""
	}
	seq, code := j.below(256), []int{1, 2, 2, 2, 4, 0, 5, 9}[j.below(8)]
	s.last = string([]byte{byte(seq), byte(code)})
	switch code {
	case 1, 2:
		s.order = code
	case 4:
		s.clear = true
	default:
		s.rejected++
	}
	return wrapped(api.KindOrder, s.last)
}

// send: what comes next, of a craft that was told these elements.
func (j *journey) send(c api.Craft) sent {
	j.leaves(c)
	ms := j.interval()
	j.b = j.b.later(ms)
	b := j.b
	s := sent{b: b, elements: c.Orbit, placed: c.Placed, intervals: ms}
	s.gyro = j.reading(b.gyro(), func() string { return says(api.KindGyro, b.tick, 4000+j.below(20000)) })
	s.sun = j.reading(b.cells(), func() string {
		return says(api.KindSun, b.tick, 2000+j.below(20000), 0, j.below(30000), 0, 0, j.below(30000))
	})
	s.mag = j.reading(b.mag(), func() string {
		return says(api.KindMag, b.tick-3, 1000-j.below(2000), 200+j.below(2000), j.below(3000))
	})
	for i, part := range []*string{&s.gyro, &s.sun, &s.mag} {
		if j.away == i+1 {
			*part = ""
		}
		s.bytes += *part
		if j.of(2 * j.wild) {
			more, rejected, garbage := j.nothing(b.tick)
			s.bytes += more
			s.rejected += rejected
			s.garbage = s.garbage || garbage
		}
	}
	// Of two readings of one kind the last one counts.
	s.gyro = s.gyro[max(0, len(s.gyro)-17):]
	s.sun = s.sun[max(0, len(s.sun)-23):]
	s.mag = s.mag[max(0, len(s.mag)-17):]
	s.quick = s.gyro != "" && s.gyro != b.gyro()
	s.bytes += j.spoken(&s)
	return s
}

// decided: what is decided in the step, but for what the filter says.
func (s sent) decided(c api.Craft) api.Seen {
	d := api.Seen{Gap: !c.On || s.intervals < 10 || s.intervals > 10000, Gyro: s.gyro != "", Slow: s.gyro != "" && !s.quick, Order: s.order}
	if !s.placed {
		return d
	}
	sky, dark := s.b.sky()
	d.Lit = !dark
	f := &fixed.Flow{}
	d.Pair = s.sun != "" && s.mag != "" && triad.Apart(f, sky[0], sky[1]) && triad.Apart(f, reading(s.sun).V, reading(s.mag).V)
	return d
}

// travel: journeys of thrown bodies from the zero craft on: each step is held against the model, and shown.
func travel(t *testing.T, seed uint64, journeys, steps int, show func(was api.Craft, s sent, now api.Craft, told api.Tell)) {
	t.Helper()
	thrown := dice(seed)
	for n := range journeys {
		j := journey{dice: &thrown, b: thrown.body(), wild: []int{8, 20, 60}[n%3], long: n%5 == 0}
		var c api.Craft
		for range steps {
			s := j.send(c)
			next, bytes := compare(t, c, s.b.tick, s.bytes)
			told, ok := tells(bytes)
			if !ok {
				t.Fatalf("Step(%+v, %d, %X) tells %X", c, s.b.tick, s.bytes, bytes)
			}
			show(c, s, next, told)
			c = next
		}
	}
}
