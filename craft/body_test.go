package craft_test

import (
	"testing"

	"alidade/api"
	"alidade/field"
	"alidade/fixed"
	"alidade/frame"
	"alidade/orbit"
	"alidade/orders"
	"alidade/quat"
	"alidade/sensor"
	"alidade/sun"
	"alidade/telem"
	"alidade/trig"
	"alidade/vec"
)

const one = api.One

// By the elements of around: ticks at which the sun is seen and stands well from the field, at which it is seen, but both are nearer than 10 degrees, at which the body is shaded, and the first one of that shade. In all of them but near sun and field stand well.
const (
	seen   = 2400000
	near   = 4300000
	shaded = 500000
	dusk   = 180522
)

// around: elements that are right.
func around() api.Orbit {
	return api.Orbit{A: 7 * one, E: one / 1000, I: one, Node: one / 2}
}

// wrapped: the bytes of a frame.
func wrapped(kind int, data string) string {
	s, ok := frame.Wrap(api.Frame{Kind: kind, Data: data})
	if !ok {
		panic("no frame")
	}
	return s
}

// says: the bytes of a sensor's frame.
func says(kind int, tick int64, counts ...int) string {
	var all [6]int
	copy(all[:], counts)
	x, ok := sensor.Write(kind, tick, all)
	if !ok {
		panic("no sensor's frame")
	}
	return wrapped(x.Kind, x.Data)
}

// gyro, cells and mag: what is said of a body that stands still, of the sun at its x, of a field of 30 at its y.
func gyro(tick int64) string  { return says(api.KindGyro, tick) }
func cells(tick int64) string { return says(api.KindSun, tick, 30000) }
func mag(tick int64) string   { return says(api.KindMag, tick, 0, 3000) }

// quickly: of a body that turns by an eighth of a radian a second.
func quickly(tick int64) string { return says(api.KindGyro, tick, 4096) }

// order: the bytes of an order that is right.
func order(seq, code int) string {
	x, ok := orders.Write(api.Order{Seq: seq, Code: code, Orbit: around()})
	if !ok {
		panic("no order")
	}
	return wrapped(x.Kind, x.Data)
}

// body: one that turns evenly, and whose sensors say what is true.
type body struct {
	o    api.Orbit
	tick int64
	q    api.Quat
	rate [3]int // the gyro's counts
}

// still: a body that doesn't turn.
func still(tick int64) body {
	q := quat.Unit(&fixed.Flow{}, api.Quat{one, -one / 2, one / 4, one})
	return body{o: around(), tick: tick, q: q}
}

// turns: how fast, about its own axes.
func (b body) turns() api.Vec {
	var v api.Vec
	for i, n := range b.rate {
		v[i] = int64(n) << 25
	}
	return v
}

// later: the body some milliseconds later, by the sine and the cosine of half of the angle.
func (b body) later(ms int64) body {
	b.tick += ms
	if b.rate == [3]int{} {
		return b
	}
	f := &fixed.Flow{}
	v := b.turns()
	half := f.Part(vec.Norm(f, v), ms, 2000)
	axis := vec.Scale(f, vec.Unit(f, v), trig.Sin(f, half))
	b.q = quat.Unit(f, quat.Mul(f, api.Quat{axis[0], axis[1], axis[2], trig.Cos(f, half)}, b.q))
	if f.Bad {
		panic("a turn that is none")
	}
	return b
}

// sky: the sun and the field where the body is, in the sky's axes, and whether the body is shaded.
func (b body) sky() ([2]api.Vec, bool) {
	f := &fixed.Flow{}
	place := orbit.Place(f, b.o, b.tick)
	all := [2]api.Vec{sun.Direction(f, b.tick), field.Sky(f, place, b.tick)}
	dark := sun.Shaded(f, place, all[0])
	if f.Bad {
		panic("no sky")
	}
	return all, dark
}

// views: the sun and the field in the body's axes.
func (b body) views() [2]api.Vec {
	f := &fixed.Flow{}
	all, _ := b.sky()
	return [2]api.Vec{quat.Turn(f, b.q, all[0]), quat.Turn(f, b.q, all[1])}
}

// rounded: a number, of which so many are 1, as a count.
func rounded(a, many int64) int {
	return int((&fixed.Flow{}).Part(a, many, one))
}

func (b body) gyro() string {
	return says(api.KindGyro, b.tick, b.rate[0], b.rate[1], b.rate[2])
}

func (b body) cells() string {
	var counts [6]int
	for i, a := range b.views()[0] {
		n := rounded(a, 30000)
		counts[2*i], counts[2*i+1] = max(n, 0), max(-n, 0)
	}
	return says(api.KindSun, b.tick, counts[:]...)
}

func (b body) mag() string {
	v := b.views()[1]
	return says(api.KindMag, b.tick, rounded(v[0], 100), rounded(v[1], 100), rounded(v[2], 100))
}

// all: what its sensors say.
func (b body) all() string {
	return b.gyro() + b.cells() + b.mag()
}

// reading: what a sensor's frame says.
func reading(s string) api.Reading {
	x, ok := frame.Open(s)
	r, yes := sensor.Read(x)
	if !ok || !yes {
		panic("no reading")
	}
	return r
}

// tells: what bytes tell, and whether they do.
func tells(s string) (api.Tell, bool) {
	x, ok := frame.Open(s)
	if !ok {
		return api.Tell{}, false
	}
	return telem.Read(x)
}

// step is Step of a craft that may tell what it does: held against the chapter's model, and against what is told.
func step(t *testing.T, c api.Craft, tick int64, bytes string) api.Craft {
	t.Helper()
	next, s := compare(t, c, tick, bytes)
	told, ok := tells(s)
	if !ok || told.Tick != tick || told.Mode != next.Plan.Mode || told.Faults != next.Plan.Faults || told.Ack != next.Ack || told.Err != next.Err || told.Rejects != next.Rejects {
		t.Fatalf("Step(%+v, %d, %X): %+v, but it tells %+v, %v", c, tick, bytes, next, told, ok)
	}
	return next
}

// in: a craft that is On, in a mode at a tick, placed by the elements of around.
func in(mode int, tick int64) api.Craft {
	return api.Craft{On: true, Tick: tick, Plan: api.Plan{Mode: mode}, Placed: true, Orbit: around()}
}

// comesToFine: a craft that came to Fine from the zero value, and the body that it stands for, at its last tick.
func comesToFine(t *testing.T, b body) (api.Craft, body) {
	t.Helper()
	c := step(t, api.Craft{}, b.tick, b.all()+order(1, api.OrderOrbit))
	for range 4 {
		b = b.later(500)
		c = step(t, c, b.tick, b.all())
	}
	if c.Plan != (api.Plan{Mode: api.Fine}) {
		t.Fatalf("not in Fine: %+v", c)
	}
	return c, b
}

// off: how far an attitude is from another, as the length of a Rodrigues vector.
func off(q, from api.Quat) int64 {
	f := &fixed.Flow{}
	n := vec.Norm(f, quat.ToRod(f, quat.Mul(f, q, quat.Back(from))))
	if f.Bad {
		return api.Most
	}
	return n
}
