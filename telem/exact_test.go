package telem_test

import (
	"math/big"
	"strings"
	"testing"

	"alidade/api"
	"alidade/telem"
)

// nearest: a p / q, rounded, a half away from 0; false, if a is no number. Of such q what comes of a number is one, too.
func nearest(a, p, q int64) (*big.Int, bool) {
	n := new(big.Int).Mul(big.NewInt(a), big.NewInt(p))
	sign := big.NewInt(int64(n.Sign()))
	n.Abs(n).Mul(n, big.NewInt(2)).Add(n, big.NewInt(q)).Div(n, new(big.Int).Mul(big.NewInt(2), big.NewInt(q))).Mul(n, sign)
	return n, big.NewInt(a).CmpAbs(big.NewInt(most)) <= 0
}

// exactCounts: by the chapter's words, in integers of any size.
func exactCounts(q api.Quat, m api.Vec) (turn [4]int, dipole [3]int) {
	fits := true
	count := func(a, p, q int64) int {
		n, ok := nearest(a, p, q)
		fits = fits && ok && n.Cmp(big.NewInt(-32768)) >= 0 && n.Cmp(big.NewInt(32767)) <= 0
		return int(n.Int64())
	}
	for i := range turn {
		turn[i] = count(q[i], 1, 1<<26)
	}
	for i := range dipole {
		dipole[i] = count(m[i], 10000, 1<<40)
	}
	if !fits {
		return [4]int{}, [3]int{}
	}
	return turn, dipole
}

// compareCounts answers whether there is a count other than 0.
func compareCounts(t *testing.T, q api.Quat, m api.Vec) bool {
	t.Helper()
	turn, dipole := exactCounts(q, m)
	counts(t, "exact", q, m, turn, dipole)
	return turn != [4]int{} || dipole != [3]int{}
}

// fits: is each part in its range, by the chapter's words?
func fits(x api.Tell) bool {
	in := func(n, first, final int) bool { return first <= n && n <= final }
	small := true
	for _, c := range append(x.Q[:], x.Dipole[:]...) {
		small = small && in(c, -32768, 32767)
	}
	return small && 0 <= x.Tick && x.Tick <= last && in(x.Mode, 0, 3) && in(x.Faults, 0, 15) && in(x.Ack, 0, 255) && in(x.Err, 0, 255) && in(x.Rejects, 0, 65535)
}

// compareWrite holds Write against the bytes of dataOf, and answers whether there are some.
func compareWrite(t *testing.T, x api.Tell) bool {
	t.Helper()
	if !fits(x) {
		writesNone(t, "exact", x)
		return false
	}
	writes(t, "exact", x, dataOf(x))
	return true
}

// worthOf: of a frame's bytes, each by its worth, as a sum of any size.
func worthOf(s string, below bool) int64 {
	n := new(big.Int).SetBytes([]byte(s))
	if below && s[0] >= 0x80 {
		n.Sub(n, new(big.Int).Lsh(big.NewInt(1), uint(8*len(s))))
	}
	return n.Int64()
}

// compareRead answers whether the frame tells something.
func compareRead(t *testing.T, x api.Frame) bool {
	t.Helper()
	if x.Kind != tell || len(x.Data) != size {
		readsNone(t, "exact", x)
		return false
	}
	var want api.Tell
	for i, p := range parts() {
		want = p.with(want, worthOf(x.Data[p.place:p.place+p.width], i > 5))
	}
	if !fits(want) {
		readsNone(t, "exact", x)
		return false
	}
	reads(t, "exact", x, want)
	return true
}

// dice: numbers that look thrown, and are the same each time.
type dice uint64

func (d *dice) next() uint64 {
	*d += 0x9E3779B97F4A7C15
	z := uint64(*d)
	z = (z ^ z>>30) * 0xBF58476D1CE4E5B9
	z = (z ^ z>>27) * 0x94D049BB133111EB
	return z ^ z>>31
}

func (d *dice) below(n int) int { return int(d.next() % uint64(n)) }

// between: both ends are thrown, too.
func (d *dice) between(first, final int64) int64 {
	return first + int64(d.next()%uint64(final-first+1))
}

// integer: of any size: small ones are as frequent as great ones.
func (d *dice) integer() int64 { return int64(d.next()) >> d.below(64) }

func (d *dice) bytes(n int) string {
	var s []byte
	for range n {
		s = append(s, byte(d.next()))
	}
	return string(s)
}

// told: mostly what may be told; sometimes a part is any integer.
func (d *dice) told() api.Tell {
	var x api.Tell
	all := parts()
	for _, p := range all {
		x = p.with(x, d.between(p.first, p.final))
	}
	if d.below(3) == 0 {
		x = all[d.below(len(all))].with(x, d.integer())
	}
	return x
}

// frame: mostly one that tells something.
func (d *dice) frame() api.Frame {
	x := api.Frame{Kind: tell, Data: d.bytes(size)}
	if d.below(8) != 0 {
		tick := parts()[0].in(x.Data, d.between(0, last+last/8))
		x.Data = tick[:6] + string([]byte{byte(d.below(5)), byte(d.below(20))}) + tick[8:]
	}
	switch d.below(16) {
	case 0:
		x.Kind = d.below(256)
	case 1:
		x.Kind = int(d.integer())
	case 2:
		x.Data = strings.Repeat(x.Data, 3)[:d.below(70)]
	}
	return x
}

// attitude and dipole: mostly of counts, and of halves of them; sometimes a part is any integer.
func (d *dice) attitude() api.Quat {
	var q api.Quat
	for i := range q {
		q[i] = d.between(-65537, 65535)<<25 + d.between(0, 2) - 1
	}
	if d.below(4) == 0 {
		q[d.below(4)] = d.integer()
	}
	return q
}

func (d *dice) dipole() api.Vec {
	var m api.Vec
	for i := range m {
		m[i] = d.between(-3602934677477, 3602824726315)
		if d.below(2) == 0 {
			m[i] = d.between(-104, 104)<<35 + d.between(0, 2) - 1
		}
	}
	if d.below(4) == 0 {
		m[d.below(3)] = d.integer()
	}
	return m
}

// often tells where one of both was hardly compared.
func often(t *testing.T, times map[bool]int, fewest int) {
	t.Helper()
	if times[true] < fewest || times[false] < fewest {
		t.Errorf("%v", times)
	}
}

func TestWriteOfWhatIsThrown(t *testing.T) {
	thrown := dice(171)
	times := map[bool]int{}
	for range 100000 {
		times[compareWrite(t, thrown.told())]++
	}
	often(t, times, 10000)
}

func TestReadOfThrownFrames(t *testing.T) {
	thrown := dice(172)
	times := map[bool]int{}
	for range 100000 {
		times[compareRead(t, thrown.frame())]++
	}
	often(t, times, 10000)
}

func TestCountsOfWhatIsThrown(t *testing.T) {
	thrown := dice(173)
	times := map[bool]int{}
	for range 100000 {
		times[compareCounts(t, thrown.attitude(), thrown.dipole())]++
	}
	often(t, times, 10000)
}

// All counts of both, just below, at and just above the halves about them.
func TestEveryCount(t *testing.T) {
	for c := int64(-32770); c <= 32770; c++ {
		half := (2*c + 1) << 25
		near := new(big.Int).Div(big.NewInt((2*c+1)<<39), big.NewInt(10000)).Int64()
		for d := int64(-1); d <= 1; d++ {
			compareCounts(t, api.Quat{half + d}, api.Vec{})
			compareCounts(t, api.Quat{0, 0, 0, one}, api.Vec{0, 0, near + d})
		}
	}
}

// Every bit of an integer, and its neighbours, in each part.
func TestCountsOfEveryBit(t *testing.T) {
	for bit := range 64 {
		for d := int64(-2); d <= 2; d++ {
			for _, a := range []int64{int64(1)<<bit + d, -(int64(1) << bit) + d} {
				for i := range 4 {
					q := api.Quat{1 << 26, 1 << 26, 1 << 26, 1 << 26}
					q[i] = a
					compareCounts(t, q, api.Vec{one, one, one})
				}
				for i := range 3 {
					m := api.Vec{one, one, one}
					m[i] = a
					compareCounts(t, api.Quat{1 << 26, 1 << 26, 1 << 26, 1 << 26}, m)
				}
			}
		}
	}
}

// Bytes of which most tell nothing.
func TestReadOfAnyBytes(t *testing.T) {
	for _, kind := range append(kinds(), tell) {
		for n := range 70 {
			for b := range 256 {
				compareRead(t, api.Frame{Kind: kind, Data: strings.Repeat(string([]byte{byte(b)}), n)})
			}
		}
	}
}

// Every pair of bytes in the place of each part of two bytes.
func TestReadOfEveryPair(t *testing.T) {
	data := dataOf(told())
	for _, p := range parts()[5:] {
		for n := range int64(65536) {
			x := api.Frame{Kind: tell, Data: data[:p.place] + string([]byte{byte(n >> 8), byte(n)}) + data[p.place+2:]}
			if n > p.final {
				n -= 65536
			}
			reads(t, p.name, x, p.with(told(), n))
		}
	}
}

// What Counts answers may always be told.
func TestCountsMayBeTold(t *testing.T) {
	thrown := dice(174)
	for range 20000 {
		q, m := thrown.attitude(), thrown.dipole()
		x := told()
		x.Q, x.Dipole = telem.Counts(q, m)
		if !compareWrite(t, x) {
			t.Fatalf("%v, %v: %+v", q, m, x)
		}
	}
}
