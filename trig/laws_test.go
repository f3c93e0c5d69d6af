package trig_test

import (
	"math"
	"math/big"
	"testing"

	"alidade/fixed"
	"alidade/trig"
)

// A product of two numbers has 80 bits behind the point: 2^-32 is 2^48 of its units.
var (
	unit  = new(big.Int).Lsh(big.NewInt(1), 80)
	slack = new(big.Int).Lsh(big.NewInt(1), 48)
)

func near(a, b *big.Int) bool {
	return less(a, b).CmpAbs(slack) <= 0
}

func pair(t *testing.T, f *fixed.Flow, a int64) (sine, cosine *big.Int) {
	t.Helper()
	sine, cosine = whole(trig.Sin(f, a)), whole(trig.Cos(f, a))
	if f.Bad {
		t.Fatalf("the flow is bad at %d", a)
	}
	return sine, cosine
}

// within16: angles of -16 to 16, evenly, some of them at edges: five turns, of both signs.
func within16(count int64) []int64 {
	angles := []int64{-16 * one, 16 * one, 0, 1, -1}
	for k := int64(-10); k <= 10; k++ {
		angles = append(angles, k*h-1, k*h, k*h+1)
	}
	var kept []int64
	for _, a := range angles {
		if -16*one <= a && a <= 16*one {
			kept = append(kept, a)
		}
	}
	for i := range count {
		kept = append(kept, -16*one+i*(32*one/count)+i*7919)
	}
	return kept
}

// P2.2, the first sentence.
func TestSquaresAreOneTogether(t *testing.T) {
	angles := append(within16(20000), edges()...)
	for _, a := range append(angles, spread(5000, 62)...) {
		s, c := pair(t, &fixed.Flow{}, a)
		if sum := plus(times(s, s), times(c, c)); !near(sum, unit) {
			t.Fatalf("at %d: %d and %d, squared %v together", a, s, c, sum)
		}
	}
}

// P2.2, the second sentence.
func TestSineOfASum(t *testing.T) {
	angles := within16(400)
	for _, a := range angles {
		f := &fixed.Flow{}
		sa, ca := pair(t, f, a)
		for _, b := range angles {
			sb, cb := pair(t, f, b)
			sum := times(whole(trig.Sin(f, a+b)), whole(one))
			parts := plus(times(sa, cb), times(ca, sb))
			if f.Bad || !near(sum, parts) {
				t.Fatalf("%d and %d: %v, of their parts %v", a, b, sum, parts)
			}
		}
	}
}

// Both laws hold of sines that run too fast, too: these hold them against the real ones.
func TestTheyAreSines(t *testing.T) {
	for _, a := range within16(20000) {
		f := &fixed.Flow{}
		s, c := pair(t, f, a)
		angle := float64(a) / float64(one)
		if d := math.Abs(float64(s.Int64())/float64(one) - math.Sin(angle)); d > 1.0/(1<<32) {
			t.Fatalf("Sin(%d) is %v beside it", a, d)
		}
		if d := math.Abs(float64(c.Int64())/float64(one) - math.Cos(angle)); d > 1.0/(1<<32) {
			t.Fatalf("Cos(%d) is %v beside it", a, d)
		}
	}
}

// What Atan2 answers, the sine and the cosine lead back to.
func TestAtan2LeadsBack(t *testing.T) {
	for _, a := range within16(5000) {
		f := &fixed.Flow{}
		back := trig.Atan2(f, trig.Sin(f, a), trig.Cos(f, a))
		turn := math.Remainder(float64(a-back), float64(4*h))
		if f.Bad || back < -2*h || back > 2*h || math.Abs(turn) > 256 {
			t.Fatalf("of %d comes %d, bad %v", a, back, f.Bad)
		}
	}
}
