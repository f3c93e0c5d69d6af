package filter_test

import (
	"testing"

	"alidade/api"
	"alidade/filter"
	"alidade/fixed"
)

// gates: directions of a body that stands as Start guesses no turn: how far chi is from 30 One by them. They were searched for outside of the program.
func gates() map[int64]pair {
	return map[int64]pair{
		-1: {{985927684570, -486695408170, 25}, {486695408196, 985927684607, -1}},
		0:  {{985927684607, -486695408199, 29}, {486695408160, 985927684574, 20}},
		1:  {{985927684617, -486695408187, -17}, {486695408218, 985927684635, 40}},
	}
}

func TestMeetAtTheGate(t *testing.T) {
	for above, body := range gates() {
		if above > 0 {
			meets(t, "just above the gate", begun(), axes(), body, begun(), 30*one+above, false, false)
			continue
		}
		h, chi := believes(t, "at the gate", begun(), axes(), body)
		if chi != 30*one+above || h.Q == noTurn() || h.P == begun().P {
			t.Errorf("%d: %v, %d", above, h, chi)
		}
	}
}

// What isn't believed leaves all of g as it was, whatever stands there that plays no part in chi.
func TestMeetAboveTheGateLeavesAll(t *testing.T) {
	f := &fixed.Flow{}
	far := pair{{0, one, 0}, {one, 0, 0}}
	_, chi, _ := filter.Meet(f, begun(), axes(), far)
	if chi <= 30*one || f.Bad {
		t.Fatalf("%d, bad %v", chi, f.Bad)
	}
	for _, a := range append(noNumbers(), most, -most, 1, 0) {
		for i := range 3 {
			g := begun()
			g.Bias[i] = a
			meets(t, "bias", g, axes(), far, g, chi, false, false)
		}
		for i := range 6 {
			for j := i + 1; j < 6; j++ {
				g := put(begun(), i, j, a)
				meets(t, "above the diagonal", g, axes(), far, g, chi, false, false)
			}
		}
	}
	for _, ok := range []bool{true, false} {
		// Without an attitude each point sees the sky as it is.
		g := begun()
		g.Q = api.Quat{}
		if ok {
			blind(t, "no attitude, seen as it is", g, axes(), axes())
			continue
		}
		f := &fixed.Flow{}
		if h, chi, ok := filter.Meet(f, g, axes(), far); h != g || chi <= 30*one || ok || f.Bad {
			t.Errorf("no attitude: %v, %d, %v, bad %v", h, chi, ok, f.Bad)
		}
	}
}

// Where it is believed the same places make the flow bad, if they are no numbers.
func TestMeetOfNoNumbers(t *testing.T) {
	for _, a := range noNumbers() {
		for i := range 3 {
			g := begun()
			g.Bias[i] = a
			blind(t, "bias", g, axes(), axes())
		}
		for i := range 6 {
			for j := i + 1; j < 6; j++ {
				blind(t, "above the diagonal", put(begun(), i, j, a), axes(), axes())
			}
		}
		for i := range 4 {
			g := begun()
			g.Q[i] = a
			blind(t, "attitude", g, axes(), axes())
			blind(t, "attitude, far off", g, axes(), pair{{0, one, 0}, {one, 0, 0}})
		}
		for n := range 2 {
			for i := range 3 {
				none := axes()
				none[n][i] = a
				blind(t, "sky", begun(), none, axes())
				blind(t, "body", begun(), axes(), none)
			}
		}
	}
}

// What stands above the diagonal comes into P by its half.
func TestMeetOfWhatStandsAboveTheDiagonal(t *testing.T) {
	h, chi := believes(t, "even", begun(), axes(), axes())
	for i := range 6 {
		for j := i + 1; j < 6; j++ {
			for _, a := range []int64{2, -2, 1000, -most / 2, one} {
				want := put(put(h, i, j, h.P[i][j]+a/2), j, i, h.P[j][i]+a/2)
				meets(t, "above the diagonal", put(begun(), i, j, a), axes(), axes(), want, chi, true, false)
			}
		}
	}
}

// A half is rounded away from 0.
func TestMeetRoundsHalves(t *testing.T) {
	h, chi := believes(t, "even", begun(), axes(), axes())
	if h.P[0][1] != 0 || h.P[1][0] != 0 {
		t.Fatal(h)
	}
	for _, c := range []struct{ above, want int64 }{{1, 1}, {-1, -1}, {3, 2}, {-3, -2}, {2, 1}, {-2, -1}} {
		want := put(put(h, 0, 1, c.want), 1, 0, c.want)
		meets(t, "a half", put(begun(), 0, 1, c.above), axes(), axes(), want, chi, true, false)
	}
}

// A direction is as good as another one of any length that shows the same way.
func TestMeetOfLengths(t *testing.T) {
	aslant := pair{{24 * one, 0, 7 * one}, {0, one, 0}}
	h, chi := believes(t, "aslant", begun(), axes(), aslant)
	if h.Q == noTurn() {
		t.Fatal(h)
	}
	for _, long := range []int64{1 << 20, 1<<20 + 1, one / 1000, one - 1, one, one + 1, 25 * one, most / 2, most} {
		for n := range 2 {
			sky := axes()
			sky[n][n] = long
			meets(t, "sky", begun(), sky, aslant, h, chi, true, false)
		}
		meets(t, "body's second", begun(), axes(), pair{aslant[0], {0, long, 0}}, h, chi, true, false)
	}
	for _, k := range []int64{1 << 16, one / 30000, one / 25, 7 * one, most / 25} {
		meets(t, "body's first", begun(), axes(), pair{{24 * k, 0, 7 * k}, {0, one, 0}}, h, chi, true, false)
	}
}

func TestMeetOfNoLength(t *testing.T) {
	for _, none := range []api.Vec{
		{}, {1, 0, 0}, {1<<20 - 1, 0, 0}, {0, 1 - 1<<20, 0}, {1 << 19, 1 << 19, 1 << 19}, // too short
		{most, most, 0}, {0, -most, 1 << 34}, {most, most, most}, // longer than a number
	} {
		for n := range 2 {
			two := axes()
			two[n] = none
			blind(t, "sky", begun(), two, axes())
			blind(t, "body", begun(), axes(), two)
			// Not even far off is it seen.
			blind(t, "body, far off", begun(), pair{{0, 0, one}, {0, 0, -one}}, two)
		}
	}
}

// Two directions that are one are seen, too: nothing is said about how the body stands about it.
func TestMeetOfOneDirection(t *testing.T) {
	one := pair{{one, 0, 0}, {one, 0, 0}}
	h, _ := believes(t, "one direction", begun(), one, one)
	if h.Q != noTurn() || h.P[0][0] != begun().P[0][0] || h.P[1][1] >= begun().P[1][1]/100 || h.P[2][2] >= begun().P[2][2]/100 {
		t.Error(h)
	}
}

// How wrong a guess may be, worked out outside of the program: past the first a point's turn leaves the numbers, past the last the sum of two numbers of P.
func TestMeetOfTheGreatestP(t *testing.T) {
	for i := range 6 {
		last := []int64{658809775177387348, most / 2}[i/3]
		believes(t, "the greatest", put(little(), i, i, last), axes(), axes())
		blind(t, "past it", put(little(), i, i, last+1), axes(), axes())
	}
	for j := 1; j < 6; j++ {
		believes(t, "above the diagonal", put(begun(), 0, j, most-1), axes(), axes())
	}
}

// Attitudes that are too long for what is worked of them, from these on, worked out outside of the program.
func TestMeetOfLongAttitudes(t *testing.T) {
	for i := range 4 {
		for _, sign := range []int64{1, -1} {
			g := begun()
			g.Q = api.Quat{}
			g.Q[i] = sign * 73506542890747
			f := &fixed.Flow{}
			if _, chi, _ := filter.Meet(f, g, axes(), axes()); chi == 0 || f.Bad {
				t.Errorf("%v: %d, bad %v", g.Q, chi, f.Bad)
			}
			g.Q[i] += sign
			blind(t, "too long", g, axes(), axes())
		}
	}
	g := begun()
	for _, c := range []struct {
		w   int64
		bad bool
	}{{0, true}, {one/2 - 1, true}, {one / 2, false}, {-one / 2, false}, {1 - one/2, true}} {
		if g.Q = (api.Quat{0, 0, 0, c.w}); c.bad {
			blind(t, "too short", g, axes(), axes())
		} else if h, _ := believes(t, "long enough", g, axes(), axes()); h.Q != noTurn() {
			t.Errorf("%v: %v", g.Q, h.Q)
		}
	}
}

// A bias is seen by what it makes of moves: it takes what a guess has of both.
func TestMeetLeadsTheBias(t *testing.T) {
	for place := range 3 {
		for _, sign := range []int64{1, -1} {
			f := &fixed.Flow{}
			g := begun()
			for range 60 {
				// The body doesn't turn: all that the gyro says is bias.
				g = filter.Move(f, g, part(place, sign*one/300), 500)
				g, _, _ = filter.Meet(f, g, axes(), axes())
			}
			for i, b := range g.Bias {
				want := part(place, sign*one/300)[i]
				if off := b - want; f.Bad || off > one/3000 || off < -one/3000 {
					t.Errorf("bias %v, place %d, sign %d, bad %v", g.Bias, place, sign, f.Bad)
				}
			}
		}
	}
}
