package telem_test

import (
	"math"
	"testing"

	"alidade/api"
	"alidade/telem"
)

// counts holds Counts against what is asked of it.
func counts(t *testing.T, name string, q api.Quat, m api.Vec, turn [4]int, dipole [3]int) {
	t.Helper()
	if a, b := telem.Counts(q, m); a != turn || b != dipole {
		t.Errorf("%s: Counts(%v, %v): %v, %v; want %v, %v", name, q, m, a, b, turn, dipole)
	}
}

func countsNone(t *testing.T, name string, q api.Quat, m api.Vec) {
	t.Helper()
	counts(t, name, q, m, [4]int{}, [3]int{})
}

// The chapter's own examples.
func TestExamples(t *testing.T) {
	counts(t, "no turn", api.Quat{0, 0, 0, one}, api.Vec{}, [4]int{0, 0, 0, 16384}, [3]int{})
	counts(t, "a fifth", api.Quat{}, api.Vec{one / 5, 0, -one / 5}, [4]int{}, [3]int{2000, 0, -2000})
	counts(t, "both", api.Quat{0, 0, 0, one}, api.Vec{0, one / 5}, [4]int{0, 0, 0, 16384}, [3]int{0, 2000})
}

// worth: a part, and its count; its counterpart with the other sign has the other count.
type worth struct {
	part  int64
	count int
}

// turns: parts of attitudes just below and at halves of a count.
func turns() []worth {
	return []worth{
		{0, 0}, {1, 0}, {1<<25 - 1, 0}, {1 << 25, 1}, {1<<25 + 1, 1}, {1<<26 - 1, 1}, {1 << 26, 1}, {1<<26 + 1, 1},
		{3<<25 - 1, 1}, {3 << 25, 2}, {5<<25 - 1, 2}, {5 << 25, 3}, {one / 2, 8192},
		{one - 1<<25 - 1, 16383}, {one - 1<<25, 16384}, {one - 1, 16384}, {one, 16384}, {one + 1<<25 - 1, 16384}, {one + 1<<25, 16385},
		{65533<<25 - 1, 32766}, {65533 << 25, 32767}, {32767 << 26, 32767}, {65535<<25 - 1, 32767},
	}
}

// dipoles: parts of dipoles about halves of a count; those of odd multiples of 2^35 are halves.
func dipoles() []worth {
	return []worth{
		{0, 0}, {1, 0}, {54975581, 0}, {54975582, 1}, {109951163, 1}, {164926744, 1}, {164926745, 2}, {274877906, 2}, {274877907, 3},
		{1<<35 - 1, 312}, {1 << 35, 313}, {1<<35 + 1, 313}, {3<<35 - 1, 937}, {3 << 35, 938}, {5<<35 - 1, 1562}, {5 << 35, 1563},
		{219847349973, 1999}, {219847349974, 2000}, {219902325555, 2000}, {219957301136, 2000}, {219957301137, 2001},
		{one, 10000}, {3 * one, 30000}, {103<<35 - 1, 32187}, {103 << 35, 32188}, {3602714775152, 32766}, {3602714775153, 32767}, {3602824726315, 32767},
	}
}

func TestCountsOfAttitudes(t *testing.T) {
	all := append(turns(), worth{-(65537<<25 - 1), -32768}, worth{-32768 << 26, -32768}, worth{-65535 << 25, -32768})
	for _, w := range turns() {
		all = append(all, worth{-w.part, -w.count})
	}
	for _, w := range all {
		for i := range 4 {
			var q api.Quat
			var turn [4]int
			q[i], turn[i] = w.part, w.count
			counts(t, "alone", q, api.Vec{}, turn, [3]int{})
			q[(i+1)%4], turn[(i+1)%4] = one, 16384
			counts(t, "beside others", q, api.Vec{-one / 5, one / 5, one}, turn, [3]int{-2000, 2000, 10000})
		}
	}
}

func TestCountsOfDipoles(t *testing.T) {
	all := append(dipoles(), worth{-3602934677477, -32768}, worth{-3602824726316, -32768})
	for _, w := range dipoles() {
		all = append(all, worth{-w.part, -w.count})
	}
	for _, w := range all {
		for i := range 3 {
			var m api.Vec
			var dipole [3]int
			m[i], dipole[i] = w.part, w.count
			counts(t, "alone", api.Quat{}, m, [4]int{}, dipole)
			m[(i+1)%3], dipole[(i+1)%3] = one, 10000
			counts(t, "beside others", api.Quat{one, -one, 0, 1 << 26}, m, [4]int{16384, -16384, 0, 1}, dipole)
		}
	}
}

// unflowing: integers that are no numbers: of those the flow goes bad.
func unflowing() []int64 {
	return []int64{most + 1, -most - 1, math.MaxInt64, math.MaxInt64 - 1, math.MinInt64, math.MinInt64 + 1}
}

// Where one part of an attitude comes to no count, all seven are zeros.
func TestCountsOfNoAttitudes(t *testing.T) {
	past := append(unflowing(), 65535<<25, 65535<<25+1, 32768<<26, 4*one, -65537<<25, -65537<<25-1, -32769<<26, -4*one, 1<<41+1<<42, 1<<58, 1<<59, -1<<58, most, -most, most-1, 1-most)
	for _, a := range past {
		for i := range 4 {
			alone, beside := api.Quat{}, api.Quat{one, -one, one / 2, 1 << 26}
			alone[i], beside[i] = a, a
			countsNone(t, "alone", alone, api.Vec{})
			countsNone(t, "beside others", beside, api.Vec{one / 5, -one / 5, one})
		}
	}
}

func TestCountsOfNoDipoles(t *testing.T) {
	past := append(unflowing(), 3602824726316, 3602824726317, 4*one, -3602934677478, -3602934677479, -4*one, 1<<56, 1<<58, -1<<58, most, -most, most-1, 1-most)
	for _, a := range past {
		for i := range 3 {
			alone, beside := api.Vec{}, api.Vec{one / 5, -one / 5, one}
			alone[i], beside[i] = a, a
			countsNone(t, "alone", api.Quat{}, alone)
			countsNone(t, "beside others", api.Quat{one, -one, one / 2, 1 << 26}, beside)
		}
	}
}

// Counts at both ends in all seven parts fit, one more in any of them doesn't.
func TestCountsAtAllEnds(t *testing.T) {
	high := api.Quat{65535<<25 - 1, 65535<<25 - 1, 65535<<25 - 1, 65535<<25 - 1}
	low := api.Quat{1 - 65537<<25, 1 - 65537<<25, 1 - 65537<<25, 1 - 65537<<25}
	strong := api.Vec{3602824726315, 3602824726315, 3602824726315}
	weak := api.Vec{-3602934677477, -3602934677477, -3602934677477}
	const h, l = 32767, -32768
	counts(t, "highest", high, strong, [4]int{h, h, h, h}, [3]int{h, h, h})
	counts(t, "lowest", low, weak, [4]int{l, l, l, l}, [3]int{l, l, l})
	counts(t, "high and low", high, weak, [4]int{h, h, h, h}, [3]int{l, l, l})
	for i := range 4 {
		higher, lower := high, low
		higher[i]++
		lower[i]--
		countsNone(t, "higher", higher, strong)
		countsNone(t, "lower", lower, weak)
	}
	for i := range 3 {
		stronger, weaker := strong, weak
		stronger[i]++
		weaker[i]--
		countsNone(t, "stronger", high, stronger)
		countsNone(t, "weaker", low, weaker)
	}
}
