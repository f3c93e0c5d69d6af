package craft

import (
	"alidade/api"
	"alidade/field"
	"alidade/filter"
	"alidade/fixed"
	"alidade/mode"
	"alidade/orbit"
	"alidade/sun"
	"alidade/triad"
	"alidade/vec"
)

// How many milliseconds lie between two steps of which the second one goes on from the first.
const (
	nearest  = 10
	farthest = 10000
)

// The quickest turn that is slow, in radians a second.
const quickest int64 = api.One / 20

// How far apart the filter's attitudes may lie, squared.
const widest int64 = api.One / 4

// sky: where the body is, and the two directions that are seen from there, in the sky's axes.
type sky struct {
	known      bool
	place      api.Vec
	directions [2]api.Vec // the sun's and the field's
}

// skyAt answers the sky at a tick; none is known, if nobody told where the body is.
func skyAt(c api.Craft, tick int64) sky {
	if !c.Placed {
		return sky{}
	}
	f := &fixed.Flow{}
	place := orbit.Place(f, c.Orbit, tick)
	directions := [2]api.Vec{sun.Direction(f, tick), field.Sky(f, place, tick)}
	if f.Bad {
		return sky{}
	}
	return sky{known: true, place: place, directions: directions}
}

// directions answers where the body's sensors see the sun and the field.
func (in heard) directions() [2]api.Vec {
	return [2]api.Vec{in.sun.V, in.mag.V}
}

// decided answers what is decided in a step, but for what the filter says.
func decided(c api.Craft, tick int64, in heard, its sky) api.Seen {
	return api.Seen{
		Gap:   !goesOn(c, tick),
		Gyro:  there(in.gyro),
		Slow:  there(in.gyro) && vec.Norm(&fixed.Flow{}, in.gyro.V) <= quickest,
		Pair:  standsWell(in, its),
		Lit:   its.known && !sun.Shaded(&fixed.Flow{}, its.place, its.directions[0]),
		Order: in.order,
	}
}

// goesOn tells whether the craft goes on from its last step, of a tick above its own.
func goesOn(c api.Craft, tick int64) bool {
	// Without a sign the difference is right even where it is too great for one.
	ms := uint64(tick) - uint64(c.Tick)
	return c.On && nearest <= ms && ms <= farthest
}

// standsWell tells whether sun and field are seen, and tell how the body stands.
func standsWell(in heard, its sky) bool {
	if !its.known || !there(in.sun) || !there(in.mag) {
		return false
	}
	f := &fixed.Flow{}
	body := in.directions()
	return triad.Apart(f, its.directions[0], its.directions[1]) && triad.Apart(f, body[0], body[1])
}

// filtered answers the guess some milliseconds later, and what is decided with what the filter says.
func filtered(g api.Guess, s api.Seen, ms int64, in heard, its sky) (api.Guess, api.Seen) {
	f := &fixed.Flow{}
	rate := in.gyro.V
	if !s.Gyro {
		// The bias alone: the body is guessed not to turn.
		rate = g.Bias
	}
	g = filter.Move(f, g, rate, ms)
	if s.Pair && s.Lit {
		g, _, s.Pass = filter.Meet(f, g, its.directions, in.directions())
	}
	spread := filter.Spread(f, g)
	s.Bad = f.Bad || spread > widest
	return g, s
}

// planned answers the plan behind a step, and the guess: there is one in Fine alone.
func planned(c api.Craft, s api.Seen, in heard, its sky) (api.Plan, api.Guess) {
	p := mode.Next(c.Plan, s)
	switch {
	case p.Mode != api.Fine:
		return p, api.Guess{}
	case c.Plan.Mode == api.Fine:
		return p, c.Guess
	}
	return entered(p, its.directions, in.directions())
}

// entered answers a plan that went to Fine, and its first guess; Coarse instead, if two directions tell no attitude.
func entered(p api.Plan, ofSky, ofBody [2]api.Vec) (api.Plan, api.Guess) {
	f := &fixed.Flow{}
	g := filter.Start(triad.Attitude(f, ofSky, ofBody))
	if f.Bad {
		return api.Plan{Mode: api.Coarse, Faults: p.Faults | api.FaultFilter}, api.Guess{}
	}
	return p, g
}
