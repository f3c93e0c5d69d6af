package craft_test

import (
	"testing"

	"alidade/api"
	"alidade/bdot"
	"alidade/craft"
	"alidade/field"
	"alidade/filter"
	"alidade/fixed"
	"alidade/frame"
	"alidade/mode"
	"alidade/orbit"
	"alidade/orders"
	"alidade/sensor"
	"alidade/sun"
	"alidade/telem"
	"alidade/triad"
)

// The chapter's points, one by one, by the calls that they name: point by point, each looks into all that came anew.

// model: a craft in a step, and what was found of it.
type model struct {
	was    api.Craft // as it was ahead of the step
	c      api.Craft
	tick   int64
	frames []api.Frame
	place  api.Vec
	pair   [2]api.Vec // sun and field of the sky
	known  bool
	seen   api.Seen
}

// modelled: what Step is to answer.
func modelled(c api.Craft, tick int64, bytes string) (api.Craft, string) {
	if tick < 0 || tick > 157766400000 || (c.On && !(tick > c.Tick)) {
		return c, ""
	}
	m := &model{was: c, c: c, tick: tick}
	m.first(bytes)
	m.second()
	m.third()
	m.fourth()
	m.fifth()
	m.sixth()
	return m.c, m.seventh()
}

// reading: the kind's reading in this step: of the frames, from the last one on, the first that may be.
func (m *model) reading(kind int) (api.Reading, bool) {
	for i := len(m.frames) - 1; i >= 0; i-- {
		if m.frames[i].Kind != kind {
			continue
		}
		if r, ok := sensor.Read(m.frames[i]); ok && r.Tick <= m.tick && m.tick-r.Tick <= 500 {
			return r, true
		}
	}
	return api.Reading{}, false
}

// body: sun and field as the readings say.
func (m *model) body() [2]api.Vec {
	s, _ := m.reading(2)
	b, _ := m.reading(3)
	return [2]api.Vec{s.V, b.V}
}

func (m *model) reject() {
	switch {
	case m.c.Rejects < 65535:
		m.c.Rejects++
	default:
		m.c.Rejects = 65535
	}
}

func (m *model) first(bytes string) {
	var over int
	m.frames, m.c.Left, over = frame.Scan(m.was.Left + bytes)
	if over != 0 {
		m.reject()
	}
	for _, x := range m.frames {
		r, ok := sensor.Read(x)
		o, wrong := orders.Read(x)
		switch {
		case ok && sensor.Fresh(r, m.tick):
		case x.Kind != 16:
			m.reject()
		case wrong != 0:
			m.c.Ack, m.c.Err = o.Seq, wrong
			m.reject()
		default:
			m.c.Ack, m.c.Err = o.Seq, 0
			m.obey(o)
		}
	}
}

func (m *model) obey(o api.Order) {
	if o.Code == 1 || o.Code == 2 {
		m.seen.Order = o.Code
	}
	if o.Code == 3 {
		m.c.Placed = true
		m.c.Orbit = o.Orbit
	}
	if o.Code == 4 {
		m.c.Rejects = 0
		m.c.Plan.Faults = 0
	}
}

func (m *model) second() {
	if r, ok := m.reading(3); ok {
		m.c.Drift = bdot.Step(new(fixed.Flow), m.was.Drift, r.V, r.Tick)
	}
}

func (m *model) third() {
	if !m.c.Placed {
		return
	}
	f := new(fixed.Flow)
	m.place = orbit.Place(f, m.c.Orbit, m.tick)
	m.pair[0] = sun.Direction(f, m.tick)
	m.pair[1] = field.Sky(f, m.place, m.tick)
	m.known = !f.Bad
}

func (m *model) fourth() {
	g, turns := m.reading(1)
	_, light := m.reading(2)
	_, iron := m.reading(3)
	// A Tick so far ahead of 0 that the difference wraps round is below 0 then.
	ms := m.tick - m.was.Tick
	m.seen.Gap = !m.was.On || ms < 10 || ms > 10000
	m.seen.Gyro = turns
	// 20 times the Norm may be no number, but is far from the ends of int64.
	m.seen.Slow = turns && 20*new(fixed.Flow).Norm(g.V[0], g.V[1], g.V[2]) <= one
	if m.known {
		b := m.body()
		m.seen.Pair = light && iron && triad.Apart(new(fixed.Flow), m.pair[0], m.pair[1]) && triad.Apart(new(fixed.Flow), b[0], b[1])
		m.seen.Lit = !sun.Shaded(new(fixed.Flow), m.place, m.pair[0])
	}
}

func (m *model) fifth() {
	if m.was.Plan.Mode != 2 || m.seen.Gap {
		return
	}
	f := new(fixed.Flow)
	by := m.was.Guess.Bias
	if g, ok := m.reading(1); ok {
		by = g.V
	}
	m.c.Guess = filter.Move(f, m.was.Guess, by, m.tick-m.was.Tick)
	if m.seen.Pair && m.seen.Lit {
		m.c.Guess, _, m.seen.Pass = filter.Meet(f, m.c.Guess, m.pair, m.body())
	}
	m.seen.Bad = filter.Spread(f, m.c.Guess) > 274877906944 || f.Bad
}

func (m *model) sixth() {
	m.c.Plan = mode.Next(m.c.Plan, m.seen)
	if m.c.Plan.Mode == 2 && m.was.Plan.Mode != 2 {
		f := new(fixed.Flow)
		m.c.Guess = filter.Start(triad.Attitude(f, m.pair, m.body()))
		if f.Bad {
			m.c.Plan = api.Plan{Mode: 1, Faults: m.c.Plan.Faults | 4}
		}
	}
	if m.c.Plan.Mode != 2 {
		m.c.Guess = api.Guess{}
	}
}

func (m *model) seventh() string {
	m.c.On = true
	m.c.Tick = m.tick
	var dipole api.Vec
	if m.c.Plan.Mode == 0 {
		dipole = bdot.Dipole(new(fixed.Flow), m.c.Drift)
	}
	told := api.Tell{Tick: m.tick, Mode: m.c.Plan.Mode, Faults: m.c.Plan.Faults, Ack: m.c.Ack, Err: m.c.Err, Rejects: m.c.Rejects}
	told.Q, told.Dipole = telem.Counts(m.c.Guess.Q, dipole)
	x, ok := telem.Write(told)
	s, yes := frame.Wrap(x)
	if !ok || !yes {
		return ""
	}
	return s
}

// compare holds Step against the model, and answers the craft and what it told.
func compare(t *testing.T, c api.Craft, tick int64, bytes string) (api.Craft, string) {
	t.Helper()
	next, s := craft.Step(c, tick, bytes)
	if want, told := modelled(c, tick, bytes); next != want || s != told {
		t.Fatalf("Step(%+v, %d, %X): %+v, %X; want %+v, %X", c, tick, bytes, next, s, want, told)
	}
	return next, s
}
