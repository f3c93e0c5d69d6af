package fixed_test

import (
	"math"
	"math/big"
	"testing"

	"alidade/fixed"
)

// What the document says of each method, worked with integers of any size; nil where it isn't defined.

func exactAdd(a, b int64) *big.Int { return new(big.Int).Add(big.NewInt(a), big.NewInt(b)) }

func exactSub(a, b int64) *big.Int { return new(big.Int).Sub(big.NewInt(a), big.NewInt(b)) }

func exactMul(a, b int64) *big.Int { return rounded(times(a, b), big.NewInt(one)) }

func exactDiv(a, b int64) *big.Int { return exactPart(a, one, b) }

func exactPart(a, p, q int64) *big.Int {
	if q == 0 {
		return nil
	}
	return rounded(times(a, p), big.NewInt(q))
}

func exactMod(a, m int64) *big.Int {
	if m <= 0 {
		return nil
	}
	return new(big.Int).Mod(big.NewInt(a), big.NewInt(m))
}

func exactSqrt(a int64) *big.Int {
	if a < 0 {
		return nil
	}
	return new(big.Int).Sqrt(times(a, one))
}

func exactNorm(a, b, c int64) *big.Int {
	sum := new(big.Int).Add(times(a, a), times(b, b))
	return sum.Sqrt(sum.Add(sum, times(c, c)))
}

func times(a, b int64) *big.Int { return new(big.Int).Mul(big.NewInt(a), big.NewInt(b)) }

// rounded: (2 |n| + |d|) / (2 |d|), cut, with the sign of n / d.
func rounded(n, d *big.Int) *big.Int {
	sign := n.Sign() * d.Sign()
	up, down := new(big.Int).Abs(n), new(big.Int).Abs(d)
	up.Add(up.Lsh(up, 1), down)
	up.Quo(up, down.Lsh(down, 1))
	return up.Mul(up, big.NewInt(int64(sign)))
}

// isNumber is written out by bits here, for the test isn't to share the program's own bound.
func isNumber(a *big.Int) bool {
	end := new(big.Int).Lsh(big.NewInt(1), 62)
	return a.CmpAbs(end) <= 0
}

// wanted: what a good flow is to answer, and whether it is bad then.
func wanted(exact func() *big.Int, handed ...int64) (int64, bool) {
	for _, a := range handed {
		if !isNumber(big.NewInt(a)) {
			return 0, true
		}
	}
	n := exact()
	if n == nil || !isNumber(n) {
		return 0, true
	}
	return n.Int64(), false
}

func compare(t *testing.T, name string, got func(f *fixed.Flow) int64, exact func() *big.Int, handed ...int64) {
	t.Helper()
	f := &fixed.Flow{}
	n := got(f)
	want, bad := wanted(exact, handed...)
	if n != want || f.Bad != bad {
		t.Fatalf("%s%v: %d, bad %v; want %d, bad %v", name, handed, n, f.Bad, want, bad)
	}
}

func compareOne(t *testing.T, a int64) {
	t.Helper()
	compare(t, "Sqrt", sqrt(a), func() *big.Int { return exactSqrt(a) }, a)
}

func compareTwo(t *testing.T, a, b int64) {
	t.Helper()
	compare(t, "Add", add(a, b), func() *big.Int { return exactAdd(a, b) }, a, b)
	compare(t, "Sub", sub(a, b), func() *big.Int { return exactSub(a, b) }, a, b)
	compare(t, "Mul", mul(a, b), func() *big.Int { return exactMul(a, b) }, a, b)
	compare(t, "Div", div(a, b), func() *big.Int { return exactDiv(a, b) }, a, b)
	compare(t, "Mod", mod(a, b), func() *big.Int { return exactMod(a, b) }, a, b)
}

func compareThree(t *testing.T, a, b, c int64) {
	t.Helper()
	compare(t, "Part", part(a, b, c), func() *big.Int { return exactPart(a, b, c) }, a, b, c)
	compare(t, "Norm", norm(a, b, c), func() *big.Int { return exactNorm(a, b, c) }, a, b, c)
}

// edges: where words, halves of words, the point and the range end, with what stands beside them, of both signs.
func edges() []int64 {
	all := []int64{0, math.MinInt64, math.MinInt64 + 1, math.MaxInt64}
	for _, bits := range []int{0, 1, 20, 31, 32, 39, 40, 51, 61, 62} {
		for beside := int64(-1); beside <= 1; beside++ {
			a := int64(1)<<bits + beside
			all = append(all, a, -a)
		}
	}
	return append(all, 3, -3, 7, -7, one*3/2, -one*3/2, one/3, most/3, -most/3)
}

func TestAgainstExactAtEdges(t *testing.T) {
	all := edges()
	for _, a := range all {
		compareOne(t, a)
		for _, b := range all {
			compareTwo(t, a, b)
			for _, c := range all {
				compareThree(t, a, b, c)
			}
		}
	}
}

// spread answers integers of all sizes and both signs, the same in each run.
type spread uint64

func (s *spread) word() uint64 {
	*s += 0x9e3779b97f4a7c15
	z := uint64(*s)
	z = (z ^ z>>30) * 0xbf58476d1ce4e5b9
	z = (z ^ z>>27) * 0x94d049bb133111eb
	return z ^ z>>31
}

func (s *spread) next() int64 {
	bits := s.word() % 64
	a := int64(s.word() >> 1 >> bits)
	if s.word()&1 == 0 {
		return -a
	}
	return a
}

func TestAgainstExactAllOver(t *testing.T) {
	s := new(spread)
	for range 100000 {
		a, b, c := s.next(), s.next(), s.next()
		compareOne(t, a)
		compareTwo(t, a, b)
		compareThree(t, a, b, c)
	}
}

// Quotients that lie just beside a half are where rounding may go wrong.
func TestPartBesideHalves(t *testing.T) {
	s := new(spread)
	for range 50000 {
		q := s.next()>>2 | 1
		a := s.next() >> 2
		for beside := int64(-1); beside <= 1; beside++ {
			compareThree(t, a, q+beside, 2)
			compareThree(t, a, q/2+beside, q)
			compareThree(t, q/2+beside, 1, q)
			compareThree(t, q/2+beside, 1, q-1)
		}
	}
}

// Squares, and what stands beside them, are where roots may be off by one.
func TestRootsBesideSquares(t *testing.T) {
	s := new(spread)
	for range 50000 {
		r := s.next() >> 12
		square := new(big.Int).Rsh(times(r, r), 40).Int64()
		a, b := s.next()>>1, s.next()>>33
		for beside := int64(-1); beside <= 1; beside++ {
			compareOne(t, square+beside)
			compareThree(t, a, beside, 0)
			compareThree(t, beside, a, b)
		}
	}
}
