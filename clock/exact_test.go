package clock_test

import (
	"math/big"
	"sort"
	"testing"

	"alidade/clock"
	"alidade/fixed"
)

// The chapter's steps, worked with integers of any size, and with nothing of the program. Of right ticks nothing in them is below 0, or no number.

// partExact: a p / q, rounded: (2 a p + q) / 2 q, cut.
func partExact(a, p, q int64) int64 {
	up := new(big.Int).Mul(big.NewInt(a), big.NewInt(p))
	up.Add(up.Lsh(up, 1), big.NewInt(q))
	return up.Quo(up, new(big.Int).Lsh(big.NewInt(q), 1)).Int64()
}

func daysExact(tick int64) int64 { return partExact(one, tick, 86400000) }

func turnExact(tick int64) int64 { return sumExact(tick) % full }

// sumExact: what Turn answers, with its full turns.
func sumExact(tick int64) int64 {
	return 5399947124839 + partExact(full, tick%86400000, 86400000) + partExact(18914669620, daysExact(tick), one)
}

// compare holds both calls against the chapter's steps; false, if one of them answers otherwise.
func compare(t *testing.T, tick int64) bool {
	t.Helper()
	for _, o := range ops() {
		f := &fixed.Flow{}
		n := o.do(f, tick)
		if want := o.exact(tick); n != want || f.Bad {
			t.Errorf("%s(%d): %d, bad %v; want %d", o.name, tick, n, f.Bad, want)
			return false
		}
	}
	if n := clock.Turn(&fixed.Flow{}, tick); n < 0 || n >= full {
		t.Errorf("Turn(%d): %d", tick, n)
		return false
	}
	return true
}

func TestAgainstExactAtEachDay(t *testing.T) {
	for noon := int64(0); noon <= last; noon += day {
		for _, beside := range []int64{-2, -1, 0, 1, 2, day / 8, day / 4, day / 2, day * 5 / 8} {
			if tick := noon + beside; 0 <= tick && tick <= last && !compare(t, tick) {
				return
			}
		}
	}
}

// A step that no day is made of leads to other milliseconds in each day.
func TestAgainstExactAllOver(t *testing.T) {
	for tick := int64(0); tick <= last; tick += 786433 {
		if !compare(t, tick) {
			return
		}
	}
}

func TestAgainstExactTickByTick(t *testing.T) {
	for _, from := range []int64{0, day - 5000, 18814320 - 5000, 1000*day - 5000, last - 10000} {
		for tick := from; tick <= from+10000; tick++ {
			if !compare(t, tick) {
				return
			}
		}
	}
}

// firstOfTurn answers the first tick of a day behind the end of a full turn. One ends in each day, for the Earth turns by more.
func firstOfTurn(noon int64) int64 {
	turns := sumExact(noon) / full
	return noon + int64(sort.Search(int(day), func(t int) bool { return sumExact(noon+int64(t))/full > turns }))
}

// The ends of turns are where an answer may come to a full turn, or below 0.
func TestAgainstExactWhereTurnsEnd(t *testing.T) {
	for noon := int64(0); noon < last; noon += day {
		tick := firstOfTurn(noon)
		if tick >= noon+day || turnExact(tick) > 80178 || turnExact(tick-1) < full-80178 {
			t.Fatalf("no turn ends at %d", tick)
		}
		if !compare(t, tick-1) || !compare(t, tick) {
			return
		}
	}
}
