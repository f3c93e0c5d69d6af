package trig_test

import (
	"math/big"
	"testing"

	"alidade/fixed"
	"alidade/trig"
)

// The chapter's steps, worked with integers of any size, and with nothing of the program.

func whole(a int64) *big.Int { return big.NewInt(a) }

func plus(a, b *big.Int) *big.Int { return new(big.Int).Add(a, b) }

func less(a, b *big.Int) *big.Int { return new(big.Int).Sub(a, b) }

func times(a, b *big.Int) *big.Int { return new(big.Int).Mul(a, b) }

// rounded: (2 |n| + |d|) / (2 |d|), cut, with the sign of n / d.
func rounded(n, d *big.Int) *big.Int {
	sign := int64(n.Sign() * d.Sign())
	up, down := new(big.Int).Abs(n), new(big.Int).Abs(d)
	up.Add(up.Lsh(up, 1), down)
	up.Quo(up, down.Lsh(down, 1))
	return times(up, whole(sign))
}

func mulExact(a, b *big.Int) *big.Int { return rounded(times(a, b), whole(one)) }

func divExact(a, b *big.Int) *big.Int { return rounded(times(a, whole(one)), b) }

func sqrtExact(a *big.Int) *big.Int { return new(big.Int).Sqrt(times(a, whole(one))) }

// seriesExact: v, with d = 2n (2n + odd).
func seriesExact(t *big.Int, odd int64) *big.Int {
	u, v := mulExact(t, t), whole(one)
	for n := int64(10); n >= 1; n-- {
		d := whole(2 * n * (2*n + odd))
		v = less(whole(one), rounded(mulExact(u, v), d))
	}
	return v
}

// turnedExact: of k quarters and t, what Sin says; Cos says it of one quarter more.
func turnedExact(k int64, t *big.Int) *big.Int {
	var v *big.Int
	if k%2 == 0 {
		v = mulExact(t, seriesExact(t, 1))
	} else {
		v = seriesExact(t, -1)
	}
	if k%4 >= 2 {
		return v.Neg(v)
	}
	return v
}

func partedExact(a int64) (int64, *big.Int) {
	r := new(big.Int).Mod(whole(a), whole(4*h))
	k, t := new(big.Int).QuoRem(r, whole(h), new(big.Int))
	return k.Int64(), t
}

func sinExact(a int64) int64 {
	k, t := partedExact(a)
	return turnedExact(k, t).Int64()
}

func cosExact(a int64) int64 {
	k, t := partedExact(a)
	return turnedExact(k+1, t).Int64()
}

func arcExact(t *big.Int) *big.Int {
	for range 2 {
		t = divExact(t, plus(whole(one), sqrtExact(plus(whole(one), mulExact(t, t)))))
	}
	u, v := mulExact(t, t), whole(0)
	for n := int64(12); n >= 0; n-- {
		v = less(rounded(whole(one), whole(2*n+1)), mulExact(u, v))
	}
	return times(whole(4), mulExact(t, v))
}

func atan2Exact(y, x *big.Int) int64 {
	if y.Sign() == 0 && x.Sign() == 0 {
		return 0
	}
	steep := y.CmpAbs(x) > 0
	low, high := new(big.Int).Abs(y), new(big.Int).Abs(x)
	if steep {
		low, high = high, low
	}
	z := arcExact(divExact(low, high))
	if steep {
		z = less(whole(h), z)
	}
	if x.Sign() < 0 {
		z = less(whole(2*h), z)
	}
	if y.Sign() < 0 {
		z = z.Neg(z)
	}
	return z.Int64()
}

func asinExact(s int64) int64 {
	rest := less(whole(one), mulExact(whole(s), whole(s)))
	return atan2Exact(whole(s), sqrtExact(rest))
}

// spread answers numbers of all sizes up to 2^bits, of both signs, always the same ones.
func spread(count int, bits uint) []int64 {
	state := uint64(88172645463325252)
	var numbers []int64
	for i := range count {
		state ^= state << 13
		state ^= state >> 7
		state ^= state << 17
		n := int64(state >> 1 & (1<<bits - 1) >> (uint(i/2) % bits))
		if i%2 == 1 {
			n = -n
		}
		numbers = append(numbers, n)
	}
	return numbers
}

// edges: each multiple of h of some turns, and what stands next to it.
func edges() []int64 {
	var angles []int64
	for k := int64(-9); k <= 9; k++ {
		for d := int64(-3); d <= 3; d++ {
			angles = append(angles, k*h+d)
		}
	}
	return append(angles, most, most-1, -most, 1-most)
}

func same(t *testing.T, name string, f *fixed.Flow, got, want int64, handed ...int64) {
	t.Helper()
	if got != want || f.Bad {
		t.Errorf("%s of %v: %d, bad %v; want %d", name, handed, got, f.Bad, want)
	}
}

func TestSinAndCosToTheBit(t *testing.T) {
	angles := append(edges(), spread(2000, 62)...)
	for _, a := range append(angles, spread(4000, 44)...) {
		f := &fixed.Flow{}
		same(t, "Sin", f, trig.Sin(f, a), sinExact(a), a)
		same(t, "Cos", f, trig.Cos(f, a), cosExact(a), a)
	}
}

func TestAtan2ToTheBit(t *testing.T) {
	few := []int64{0, 1, -1, 2, -2, 3, -3, one - 1, one, -one, 1 - one, most - 1, most, -most, 1 - most}
	for _, y := range few {
		for _, x := range few {
			f := &fixed.Flow{}
			same(t, "Atan2", f, trig.Atan2(f, y, x), atan2Exact(whole(y), whole(x)), y, x)
		}
	}
	numbers := spread(6000, 62)
	for i, y := range numbers {
		x := numbers[(i*7+3)%len(numbers)]
		f := &fixed.Flow{}
		same(t, "Atan2", f, trig.Atan2(f, y, x), atan2Exact(whole(y), whole(x)), y, x)
	}
}

// As great as each other, nearly: where the steps take both ways, and t is near One.
func TestAtan2NearTheDiagonalToTheBit(t *testing.T) {
	for _, y := range spread(500, 61) {
		for d := int64(-2); d <= 2; d++ {
			for _, x := range []int64{y + d, -y + d} {
				f := &fixed.Flow{}
				same(t, "Atan2", f, trig.Atan2(f, y, x), atan2Exact(whole(y), whole(x)), y, x)
			}
		}
	}
}

func TestAsinAndAcosToTheBit(t *testing.T) {
	sines := spread(4000, 40)
	for d := range int64(40) {
		sines = append(sines, one-d, d-one, d, -d)
	}
	for _, s := range sines {
		f := &fixed.Flow{}
		want := asinExact(s)
		same(t, "Asin", f, trig.Asin(f, s), want, s)
		same(t, "Acos", f, trig.Acos(f, s), h-want, s)
	}
}
