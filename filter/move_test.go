package filter_test

import (
	"testing"

	"alidade/api"
	"alidade/filter"
	"alidade/fixed"
)

// little: a guess of no turn that is hardly wrong at all: the least of which there is a root.
func little() api.Guess { return diagonal(api.Row{1, 1, 1, 1, 1, 1}) }

// part answers a vector with a at one place.
func part(place int, a int64) (v api.Vec) {
	v[place] = a
	return v
}

// What P becomes without a rate, in how many milliseconds: on the diagonal of a turn, of the bias, and between both. Of the least P nearly all is what is added.
func TestMoveOfTimes(t *testing.T) {
	for _, c := range []struct {
		ms                  int64
		turn, bias, between int64
		addTurn, addBias    int64
	}{
		{10, 17179871517, 16777226, -167772, 656, 11},
		{11, 17179871935, 16777227, -184549, 722, 12},
		{15, 17179873942, 16777231, -251658, 984, 16},
		{500, 17184096256, 16777728, -8388608, 32769, 513},
		{999, 17196678332, 16778239, -16760439, 65472, 1024},
		{1000, 17196711936, 16778240, -16777216, 65538, 1025},
		{1001, 17196745573, 16778241, -16793993, 65604, 1026},
		{5432, 17675264180, 16782778, -91133837, 356023, 5563},
		{9999, 18857910550, 16787455, -167755383, 655395, 10240},
		{10000, 18858246144, 16787456, -167772160, 655461, 10241},
	} {
		want := diagonal(api.Row{c.turn, c.turn, c.turn, c.bias, c.bias, c.bias})
		for i := range 3 {
			want.P[i][3+i], want.P[3+i][i] = c.between, c.between
		}
		moves(t, "Start", begun(), api.Vec{}, c.ms, want, false)
		h := goes(t, "the least", little(), api.Vec{}, c.ms)
		for i := range 3 {
			if h.P[i][i] != c.addTurn || h.P[3+i][3+i] != c.addBias {
				t.Errorf("%d: %v", c.ms, h)
			}
		}
	}
}

func TestMoveOfTimesThatAreNone(t *testing.T) {
	for _, ms := range []int64{
		9, 8, 1, 0, -1, -9, -10, -11, -1000, -10000, -10001, 10001, 10002, 20000, 1 << 31, 1 << 32, 1<<32 + 1000, -1<<32 + 1000,
		most, most + 1, -most, greatest, greatest - 1, least, least + 1, least + 10, least + 1000,
	} {
		stuck(t, "Start", begun(), api.Vec{}, ms)
		stuck(t, "a rate", begun(), api.Vec{one, -one, one}, ms)
		stuck(t, "the least", little(), api.Vec{}, ms)
	}
}

// A rate about one axis turns about it, either way, and a bias as if it was a rate the other way.
func TestMoveOfRatesAndBiases(t *testing.T) {
	for place := range 3 {
		for _, sign := range []int64{1, -1} {
			rate := part(place, sign*one/8)
			// Somewhat farther than an eighth: points that turn farther turn more than those that turn less turn less.
			want := part(place, sign*68652498625)
			h := goes(t, "rate", begun(), rate, 1000)
			if h.Q != (api.Quat{want[0], want[1], want[2], 1097366235150}) || h.Bias != (api.Vec{}) {
				t.Errorf("rate %v: %v", rate, h)
			}
			g := begun()
			g.Bias = part(place, -sign*one/8)
			h.Bias = g.Bias
			moves(t, "bias", g, api.Vec{}, 1000, h, false)

			// What rate and bias are together is nothing.
			g.Bias = rate
			h = goes(t, "neither", begun(), api.Vec{}, 1000)
			h.Bias = rate
			moves(t, "rate and bias", g, rate, 1000, h, false)
		}
	}
}

// Each turn is by as much of the rate as the time is of a second.
func TestMoveOfARateByTimes(t *testing.T) {
	for _, ms := range []int64{10, 11, 100, 500, 2500, 9999, 10000} {
		for place := range 3 {
			f := &fixed.Flow{}
			h := filter.Move(f, little(), part(place, one/1000), ms)
			// The vector of a small turn is twice the attitude's part.
			off := 2*h.Q[place] - one/1000*ms/1000
			if f.Bad || off > one/1000000 || off < -one/1000000 {
				t.Errorf("%d ms: %v", ms, h)
			}
		}
	}
}

// The fastest rate whose turn has a Rodrigues vector, and the one above it, worked out outside of the program.
func TestMoveOfTurnsThatLeaveTheNumbers(t *testing.T) {
	for _, c := range []struct {
		name    string
		g       api.Guess
		ms      int64
		fastest int64
	}{
		{"the least", little(), 10, 225179551868611278},
		{"the least", little(), 1000, 2251795515939584},
		{"the least", little(), 10000, 225179549097114},
		{"Start", begun(), 10, 225179540507970195},
		{"Start", begun(), 1000, 2251784155298501},
		{"Start", begun(), 10000, 225168188456031},
	} {
		for place := range 3 {
			for _, sign := range []int64{1, -1} {
				goes(t, c.name, c.g, part(place, sign*c.fastest), c.ms)
				stuck(t, c.name, c.g, part(place, sign*(c.fastest+1)), c.ms)
				// A bias is a rate the other way.
				g := c.g
				g.Bias = part(place, sign*c.fastest)
				goes(t, c.name+", bias", g, api.Vec{}, c.ms)
				g.Bias = part(place, sign*(c.fastest+1))
				stuck(t, c.name+", bias", g, api.Vec{}, c.ms)
			}
		}
	}
	goes(t, "about three axes", begun(), api.Vec{1300070961073283, 1300070961073283, 1300070961073283}, 1000)
	stuck(t, "about three axes", begun(), api.Vec{1300070961073284, 1300070961073284, 1300070961073284}, 1000)
}

func TestMoveOfRatesThatLeaveTheNumbers(t *testing.T) {
	for place := range 3 {
		for _, a := range append(noNumbers(), most, -most) {
			g := begun()
			stuck(t, "rate", g, part(place, a), 10)
			g.Bias = part(place, a)
			stuck(t, "bias", g, api.Vec{}, 10)
			// Where a bias takes a rate back there is nothing left to turn by, if both are numbers.
			if a == most || a == -most {
				h := goes(t, "neither", begun(), api.Vec{}, 10)
				h.Bias = g.Bias
				moves(t, "rate and bias", g, part(place, a), 10, h, false)
			} else {
				stuck(t, "rate and bias", g, part(place, a), 10)
			}
			if g.Bias[place] = -a; a != least {
				stuck(t, "rate against bias", g, part(place, a), 10)
			}
		}
	}
}

// How wrong a guess may be: the points' turns and biases leave the numbers past these, worked out outside of the program.
func TestMoveOfTheGreatestP(t *testing.T) {
	for i := range 6 {
		last := []int64{658809775177387348, 329406144173410878}[i/3]
		for _, ms := range []int64{10, 1000} {
			goes(t, "the greatest", put(little(), i, i, last), api.Vec{}, ms)
			stuck(t, "past it", put(little(), i, i, last+1), api.Vec{}, ms)
		}
		f := &fixed.Flow{}
		if filter.Points(f, put(little(), i, i, most)); f.Bad {
			t.Errorf("place %d: no points", i)
		}
	}
}

// What stands above P's diagonal plays no part.
func TestMoveOfWhatStandsAboveTheDiagonal(t *testing.T) {
	for _, j := range journeys() {
		if j.steps[0].ms == 0 {
			continue
		}
		for _, a := range append(noNumbers(), 0, 1, most, -most) {
			g := j.from
			for i := range g.P {
				for k := i + 1; k < len(g.P); k++ {
					g.P[i][k] = a
				}
			}
			moves(t, j.name, g, j.steps[0].rate, j.steps[0].ms, j.steps[0].want, false)
		}
	}
}

// An attitude that is shorter than a half is none; a longer one is as if it was 1 long.
func TestMoveOfAttitudesOfAnyLength(t *testing.T) {
	for place := range 4 {
		for _, sign := range []int64{1, -1} {
			for _, c := range []struct {
				long int64
				bad  bool
			}{
				{0, true}, {1, true}, {one/2 - 1, true}, {one / 2, false}, {one/2 + 1, false}, {one - 1, false}, {one, false}, {2 * one, false},
				{1000 * one, false}, {4611684918915760128, false}, {4611684918915760129, true}, {most, true}, {most + 1, true}, {greatest, true},
			} {
				g := begun()
				g.Q = api.Quat{}
				g.Q[place] = sign * c.long
				if c.bad {
					stuck(t, "no attitude", g, api.Vec{}, 1000)
					continue
				}
				h := goes(t, "an attitude", g, api.Vec{}, 1000)
				for i, a := range h.Q {
					// Of the two of a turn the one whose w isn't below 0.
					want := int64(0)
					if i == place {
						want = one
					}
					if i < 3 && i == place && a < 0 {
						a = -a
					}
					if a-want > 16 || want-a > 16 {
						t.Errorf("%v: %v", g.Q, h.Q)
					}
				}
			}
		}
	}
	g := begun()
	for _, q := range []api.Quat{{most, most, 0, one}, {0, 0, most, most}, {least, 0, 0, one}, {0, greatest, 0, one}, {0, 0, -most - 1, one}, {one, 0, 0, most + 1}} {
		g.Q = q
		stuck(t, "too long", g, api.Vec{}, 1000)
	}
}
