package sensor_test

import (
	"math/big"
	"testing"

	"alidade/api"
	"alidade/sensor"
)

// The chapter's rules, worked with integers of any size, and with nothing of the program.

// ratio: a / b, rounded, a half away from 0; b is above 0.
func ratio(a, b *big.Int) int64 {
	twice := new(big.Int).Lsh(b, 1)
	up := new(big.Int).Abs(a)
	up.Add(up.Lsh(up, 1), b)
	up.Quo(up, twice)
	if a.Sign() < 0 {
		up.Neg(up)
	}
	return up.Int64()
}

// length: of a vector, cut.
func length(v api.Vec) *big.Int {
	sum := new(big.Int)
	for _, n := range v {
		b := big.NewInt(n)
		sum.Add(sum, b.Mul(b, b))
	}
	return sum.Sqrt(sum)
}

func gyroExact(counts []int) (api.Vec, bool) {
	var v api.Vec
	for i, c := range counts {
		if c > 30000 || c < -30000 {
			return api.Vec{}, false
		}
		v[i] = int64(c) * 33554432
	}
	return v, true
}

func magExact(counts []int) (api.Vec, bool) {
	var v api.Vec
	for i, c := range counts {
		v[i] = ratio(big.NewInt(int64(c)*one), big.NewInt(100))
	}
	n := length(v)
	if n.Cmp(big.NewInt(one)) < 0 || n.Cmp(big.NewInt(120*one)) > 0 {
		return api.Vec{}, false
	}
	return v, true
}

func sunExact(counts []int) (api.Vec, bool) {
	greatest := 0
	var v api.Vec
	for i, c := range counts {
		greatest = max(greatest, c)
		if i%2 == 1 {
			v[i/2] = int64(counts[i-1]-c) * 16777216
		}
	}
	n := length(v)
	if greatest < 2000 || n.Cmp(big.NewInt(1<<20)) < 0 {
		return api.Vec{}, false
	}
	for i := range v {
		v[i] = ratio(new(big.Int).Mul(big.NewInt(v[i]), big.NewInt(one)), n)
	}
	return v, true
}

func exact(kind int, counts []int) (api.Vec, bool) {
	switch kind {
	case gyro:
		return gyroExact(counts)
	case mag:
		return magExact(counts)
	}
	return sunExact(counts)
}

// compare holds Read against the chapter's rules; false, if it answers otherwise.
func compare(t *testing.T, kind int, tick int64, counts ...int) bool {
	t.Helper()
	v, ok := exact(kind, counts)
	want := api.Reading{}
	if ok {
		want = api.Reading{Kind: kind, Tick: tick, V: v}
	}
	got, gotOk := sensor.Read(raw(kind, tick, counts...))
	if got != want || gotOk != ok {
		t.Errorf("Read(%d, %d, %v): %v, %v; want %v, %v", kind, tick, counts, got, gotOk, want, ok)
		return false
	}
	return true
}

// The rules here answer what was worked out outside, too.
func TestExactAgainstSamples(t *testing.T) {
	for _, c := range fields() {
		if v, ok := magExact(c.counts[:]); v != c.want || ok != c.ok {
			t.Errorf("%s: %v, %v", c.name, v, ok)
		}
	}
	for _, c := range lights() {
		if v, ok := sunExact(c.counts[:]); v != c.want || ok != c.ok {
			t.Errorf("%s: %v, %v", c.name, v, ok)
		}
	}
}

func TestEachCountOfGyroAndMag(t *testing.T) {
	for count := -32768; count <= 32767; count++ {
		for place := range 3 {
			for _, kind := range []int{gyro, mag} {
				counts := make([]int, 3)
				counts[place] = count
				counts[(place+1)%3] = 77
				if !compare(t, kind, int64(count+32768), counts...) {
					return
				}
			}
		}
	}
}

func TestEachCountOfSun(t *testing.T) {
	for count := range 65536 {
		for place := range 6 {
			counts := []int{1000, 30, 0, 1700, 5, 1999}
			counts[place] = count
			if !compare(t, sun, last-int64(count), counts...) {
				return
			}
		}
	}
}

// squares calls do with all counts from 0 up whose squares are the sum's, the least first.
func squares(sum int, do func(a, b, c int)) {
	for a := 0; 3*a*a <= sum; a++ {
		b := a
		for c := root(sum - a*a - b*b); b <= c; b++ {
			for c*c > sum-a*a-b*b {
				c--
			}
			if b <= c && a*a+b*b+c*c == sum {
				do(a, b, c)
			}
		}
	}
}

func root(n int) int {
	return int(new(big.Int).Sqrt(big.NewInt(int64(n))).Int64())
}

// At both of the field's bounds: all counts whose length is the bound, or next to it. Of those that are 1 long some are a bit shorter when they are rounded, and are refused.
func TestMagAtItsBounds(t *testing.T) {
	seen := map[bool]int{}
	for _, sum := range []int{9996, 9997, 9998, 10000, 10001, 10002, 143999997, 143999998, 144000000, 144000001, 144000002} {
		some := 0
		squares(sum, func(a, b, c int) {
			some++
			compare(t, mag, 1, a, b, c)
			compare(t, mag, 2, -c, a, b)
			compare(t, mag, 3, b, -c, -a)
			if _, ok := magExact([]int{a, b, c}); sum == 10000 {
				seen[ok]++
			} else if ok != (10000 < sum && sum <= 144000000) {
				t.Errorf("%d, %d, %d: %v", a, b, c, ok)
			}
		})
		if some == 0 {
			t.Errorf("no counts of %d", sum)
		}
	}
	if seen[true] != 3 || seen[false] != 2 {
		t.Errorf("of length 1: %v", seen)
	}
}

// dice: numbers that look as if they were thrown, the same ones in each run.
type dice uint64

func (d *dice) below(n int) int {
	*d = *d*6364136223846793005 + 1442695040888963407
	return int(uint64(*d) >> 33 % uint64(n))
}

// thrown: counts of a kind, at first small ones, then of the whole range.
func thrown(d *dice, kind, wide int) []int {
	counts := make([]int, 3)
	if kind == sun {
		counts = make([]int, 6)
	}
	for i := range counts {
		if counts[i] = d.below(wide); kind != sun {
			counts[i] -= wide / 2
		}
	}
	return counts
}

func TestAgainstExactAllOver(t *testing.T) {
	d := dice(12)
	for _, wide := range []int{2, 3, 300, 2001, 2010, 5000, 20000, 30000, 60003, 65536} {
		for range 10000 {
			tick := int64(d.below(1<<31))*73 + int64(d.below(100))
			for _, kind := range kinds() {
				if !compare(t, kind, tick, thrown(&d, kind, wide)...) {
					return
				}
			}
		}
	}
}
