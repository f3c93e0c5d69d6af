package mat_test

import (
	"math"
	"testing"

	"alidade/api"
	"alidade/fixed"
	"alidade/mat"
)

const (
	one  = api.One
	most = api.Most
)

// call: a matrix, a row for those that take one, and what comes of them; bad is whether there is nothing.
type call struct {
	name string
	m    api.Mat
	b    api.Row
	n    int
	want api.Mat
	bad  bool
}

func check(t *testing.T, o op, all []call) {
	t.Helper()
	for _, c := range all {
		f := &fixed.Flow{}
		if got := o.do(f, c.m, c.b, c.n); got != c.want || f.Bad != c.bad {
			t.Errorf("%s, %s: %v, bad %v; want %v, bad %v", o.name, c.name, got, f.Bad, c.want, c.bad)
		}
	}
}

// slope: (6 - the greater of i and j) / 6, cut.
func slope() (m api.Mat) {
	for i := range m {
		for j := range m {
			m[i][j] = one * int64(6-max(i, j)) / 6
		}
	}
	return m
}

// rootOfSlope is worked out by the chapter's steps, apart from the program.
func rootOfSlope() api.Mat {
	return api.Mat{
		{1099511627776},
		{916259689813, 409763790292},
		{733007751850, 327811032236, 401484880514},
		{549755813888, 245858274176, 301113660388, 388736063995},
		{366503875925, 163905516118, 200742440258, 259157375995, 366503875925},
		{183251937962, 81952758058, 100371220130, 129578687998, 183251937960, 317401667137},
	}
}

// hilbert: 1 / (i + j + 1), cut.
func hilbert() (m api.Mat) {
	for i := range m {
		for j := range m {
			m[i][j] = one / int64(i+j+1)
		}
	}
	return m
}

func rootOfHilbert() api.Mat {
	return api.Mat{
		{1099511627776},
		{549755813888, 317401667136},
		{366503875925, 317401667136, 81952758058},
		{274877906944, 285661500423, 122929137087, 20778816642},
		{219902325555, 253921333706, 140490442399, 41557633233, 5235769923},
		{183251937962, 226715476527, 146344210818, 57718935096, 13089424283, 1315537114},
	}
}

// signs: 3 / (i + 2 j + 1), cut, and below 0 where i and j are odd.
func signs() (m api.Mat) {
	for i := range m {
		for j := range m {
			m[i][j] = 3 * one / int64(i+2*j+1)
			if i*j%2 == 1 {
				m[i][j] = -m[i][j]
			}
		}
	}
	return m
}

// some: a row of numbers of many kinds.
func some() api.Row { return api.Row{one, -366503875926, 157073089682, 0, 5 * one, -2 * one} }

// first answers a matrix's first n rows and columns alone.
func first(m api.Mat, n int) (cut api.Mat) {
	for i := range n {
		copy(cut[i][:n], m[i][:n])
	}
	return cut
}

func TestRoot(t *testing.T) {
	var calls []call
	// The root of a matrix's corner is the corner of its root.
	for n := 1; n <= 6; n++ {
		calls = append(calls,
			call{"slope", slope(), api.Row{}, n, first(rootOfSlope(), n), false},
			call{"hilbert", hilbert(), api.Row{}, n, first(rootOfHilbert(), n), false},
		)
	}
	check(t, ops()[0], append(calls, []call{
		{"the example", api.Mat{{4 * one, 2 * one}, {2 * one, 5 * one}}, api.Row{}, 2, api.Mat{{2 * one}, {one, 2 * one}}, false},
		{"above the diagonal", api.Mat{{4 * one, -7 * one}, {2 * one, 5 * one}}, api.Row{}, 2, api.Mat{{2 * one}, {one, 2 * one}}, false},
		{"below 0 on the left", api.Mat{{4 * one}, {-2 * one, 5 * one}}, api.Row{}, 2, api.Mat{{2 * one}, {-one, 2 * one}}, false},
		{"three rows", api.Mat{{4 * one}, {2 * one, 5 * one}, {-6 * one, one, 17 * one}}, api.Row{}, 3, api.Mat{{2 * one}, {one, 2 * one}, {-3 * one, 2 * one, 2 * one}}, false},
		{"2 alone", api.Mat{{2 * one}}, api.Row{}, 1, api.Mat{{1554944255987}}, false},
		{"most", api.Mat{{most}}, api.Row{}, 1, api.Mat{{1 << 51}}, false},
		{"most, twice", api.Mat{{most}, {0, most}}, api.Row{}, 2, api.Mat{{1 << 51}, {0, 1 << 51}}, false},
	}...))
}

func TestRootOfPivots(t *testing.T) {
	check(t, ops()[0], []call{
		{"a unit", api.Mat{{1}}, api.Row{}, 1, api.Mat{{1 << 20}}, false},
		{"two units", api.Mat{{2}}, api.Row{}, 1, api.Mat{{1482910}}, false},
		{"0", api.Mat{{0}}, api.Row{}, 1, api.Mat{}, true},
		{"below 0", api.Mat{{-1}}, api.Row{}, 1, api.Mat{}, true},
		{"far below 0", api.Mat{{-most}}, api.Row{}, 1, api.Mat{}, true},
		{"a unit is left in row 1", api.Mat{{one}, {one, one + 1}}, api.Row{}, 2, api.Mat{{one}, {one, 1 << 20}}, false},
		{"0 is left in row 1", api.Mat{{one}, {one, one}}, api.Row{}, 2, api.Mat{}, true},
		{"below 0 in row 1", api.Mat{{one}, {one, one - 1}}, api.Row{}, 2, api.Mat{}, true},
		{"far below 0 in row 1", api.Mat{{one}, {2 * one, one}}, api.Row{}, 2, api.Mat{}, true},
		{"a unit is left in row 5", last(1), api.Row{}, 6, rootOfLast(), false},
		{"0 is left in row 5", last(0), api.Row{}, 6, api.Mat{}, true},
		{"below 0 in row 5", last(-1), api.Row{}, 6, api.Mat{}, true},
		{"0 is left behind the first 5 rows", last(0), api.Row{}, 5, first(rootOfLast(), 5), false},
		{"0 first", api.Mat{{0}, {0, one}}, api.Row{}, 2, api.Mat{}, true},
	})
}

// last: a matrix of 1 on the diagonal, of whose last row so much is left at the end.
func last(left int64) (m api.Mat) {
	for i := range 5 {
		m[i][i], m[5][i] = one, one
	}
	m[5][5] = 5*one + left
	return m
}

func rootOfLast() api.Mat {
	l := last(0)
	l[5][5] = 1 << 20
	return l
}

func TestRootThatLeavesTheNumbers(t *testing.T) {
	check(t, ops()[0], []call{
		{"a quotient is past it", api.Mat{{1}, {most, most}}, api.Row{}, 2, api.Mat{}, true},
		{"a square is past it", api.Mat{{one}, {1 << 52, most}}, api.Row{}, 2, api.Mat{}, true},
		{"a product is past it", api.Mat{{one}, {1 << 50, most}, {1 << 53, 0, most}}, api.Row{}, 3, api.Mat{}, true},
		{"no pivot", api.Mat{{most + 1}}, api.Row{}, 1, api.Mat{}, true},
		{"no pivot, below 0", api.Mat{{math.MinInt64}}, api.Row{}, 1, api.Mat{}, true},
		{"no number left of the diagonal", api.Mat{{one}, {most + 1, one}}, api.Row{}, 2, api.Mat{}, true},
		{"no number in row 1", api.Mat{{one}, {0, math.MaxInt64}}, api.Row{}, 2, api.Mat{}, true},
	})
}

func TestSolve(t *testing.T) {
	two := api.Mat{{2 * one}, {one, 2 * one}}
	check(t, ops()[1], []call{
		{"as the example", two, api.Row{8 * one, 12 * one}, 2, api.Mat{{one, 2 * one}}, false},
		{"above the diagonal", api.Mat{{2 * one, 9 * one}, {one, 2 * one}}, api.Row{8 * one, 12 * one}, 2, api.Mat{{one, 2 * one}}, false},
		{"one alone", two, api.Row{8 * one, 12 * one}, 1, api.Mat{{2 * one}}, false},
		{"of 3, rounded", api.Mat{{3 * one}}, api.Row{one}, 1, api.Mat{{122167958642}}, false},
		{"nothing", two, api.Row{}, 2, api.Mat{}, false},
		{"a diagonal below 0", api.Mat{{-2 * one}}, api.Row{one}, 1, api.Mat{{one / 4}}, false},
		{"three rows", api.Mat{{2 * one}, {one, 2 * one}, {-3 * one, 2 * one, 2 * one}}, api.Row{-10 * one, 15 * one, 47 * one}, 3, api.Mat{{one, 2 * one, 3 * one}}, false},
		{"six rows", rootOfSlope(), some(), 6, api.Mat{{8796093022446, -11937554816402, 4083900331879, -33927787370949, 79164837199323, -59373627899398}}, false},
		{"0 on the diagonal", api.Mat{{0}}, api.Row{one}, 1, api.Mat{}, true},
		{"0 on the diagonal, of nothing", api.Mat{}, api.Row{}, 1, api.Mat{}, true},
		{"0 first on the diagonal", api.Mat{{0}, {one, one}}, api.Row{0, one}, 2, api.Mat{}, true},
		{"0 last on the diagonal", api.Mat{{one}, {one, 0}}, api.Row{one, one}, 2, api.Mat{}, true},
		{"0 on the diagonal behind n", api.Mat{{one}, {one, 0}}, api.Row{one, one}, 1, api.Mat{{one}}, false},
	})
}

func TestSolveThatLeavesTheNumbers(t *testing.T) {
	const small = one >> 10
	down := api.Mat{{one}, {0, one}, {one, one, 4 * one}}
	back := api.Mat{{one}, {small, one}, {small, 0, one}}
	check(t, ops()[1], []call{
		{"the greatest", api.Mat{{one}}, api.Row{most}, 1, api.Mat{{most}}, false},
		{"the least", api.Mat{{one}}, api.Row{-most}, 1, api.Mat{{-most}}, false},
		{"a quotient past it", api.Mat{{one - 1}}, api.Row{most}, 1, api.Mat{}, true},
		{"the second quotient is the greatest", api.Mat{{one / 2}}, api.Row{most / 4}, 1, api.Mat{{most}}, false},
		{"the second quotient is past it", api.Mat{{one / 2}}, api.Row{most/4 + 1}, 1, api.Mat{}, true},
		{"a product past it", api.Mat{{one}, {2 * one, one}}, api.Row{most, most}, 2, api.Mat{}, true},
		{"a product past it, going back", api.Mat{{one}, {2 * one, one}}, api.Row{0, most}, 2, api.Mat{}, true},
		{"a difference past it", api.Mat{{one}, {one, one}}, api.Row{-1, most}, 2, api.Mat{}, true},
		{"a difference past it, going back", api.Mat{{one}, {one, one}}, api.Row{-1, most - 1}, 2, api.Mat{}, true},
		// Of the same differences the first ones decide whether the numbers are left on the way.
		{"down and up again", down, api.Row{1 << 60, -1 << 60, most}, 3, api.Mat{{864691128455135232, -1441151880758558720, 288230376151711744}}, false},
		{"up first", down, api.Row{-1 << 60, 1 << 60, most}, 3, api.Mat{}, true},
		{"down and up again, going back", back, api.Row{most, 1<<61 + 1<<52, 1<<52 - 1<<61}, 3, api.Mat{{most, 1 << 61, -1 << 61}}, false},
		{"up first, going back", back, api.Row{most, 1<<52 - 1<<61, 1<<61 + 1<<52}, 3, api.Mat{}, true},
	})
}

func TestSquare(t *testing.T) {
	check(t, ops()[2], []call{
		{"as the example", api.Mat{{2 * one}, {one, 2 * one}}, api.Row{}, 2, api.Mat{{4 * one, 2 * one}, {2 * one, 5 * one}}, false},
		{"above the diagonal", api.Mat{{2 * one, 3 * one}, {one, 2 * one}}, api.Row{}, 2, api.Mat{{13 * one, 8 * one}, {8 * one, 5 * one}}, false},
		{"one alone", api.Mat{{-3 * one, 3 * one}, {one, 2 * one}}, api.Row{}, 1, api.Mat{{9 * one}}, false},
		{"nothing", api.Mat{}, api.Row{}, 6, api.Mat{}, false},
		{"three rows", signs(), api.Row{}, 3, api.Mat{
			{11390940463759, 4453022092493, 4240973421420},
			{4453022092493, 3367254360064, 1390096843688},
			{4240973421420, 1390096843688, 1697286929080},
		}, false},
		{"six rows", signs(), api.Row{}, 6, api.Mat{
			{11796841394317, 4311299327484, 4567202146144, 2057538480073, 2943308049735, 1339369375406},
			{4311299327484, 3689548705955, 1279184569347, 2120486710711, 728092352715, 1524099823323},
			{4567202146144, 1279184569347, 1959790618001, 582131543387, 1319413953329, 368787660067},
			{2057538480073, 2120486710711, 582131543387, 1266135322285, 322960945412, 927712935936},
			{2943308049735, 728092352715, 1319413953329, 322960945412, 904259455336, 201270491403},
			{1339369375406, 1524099823323, 368787660067, 927712935936, 201270491403, 686314737325},
		}, false},
		{"each product is rounded", api.Mat{{1 << 19, 1 << 19}, {1 << 20}}, api.Row{}, 2, api.Mat{{0, 1}, {1, 1}}, false},
		{"the greatest", api.Mat{{1 << 51}}, api.Row{}, 1, api.Mat{{most}}, false},
		{"a product past it", api.Mat{{1<<51 + 1}}, api.Row{}, 1, api.Mat{}, true},
		{"a product past it in the last row", api.Mat{{one}, {0, one}, {0, 0, 1<<51 + 1}}, api.Row{}, 3, api.Mat{}, true},
		{"a sum of two", api.Mat{{1 << 50, 1 << 50}, {1 << 50, -1 << 50}}, api.Row{}, 2, api.Mat{{most / 2, 0}, {0, most / 2}}, false},
		{"a sum past it", api.Mat{{3 << 49, 3 << 49}}, api.Row{}, 2, api.Mat{}, true},
	})
}

func TestApply(t *testing.T) {
	ones := api.Mat{{one, one, one}, {0, one}, {0, 0, one}}
	check(t, ops()[3], []call{
		{"as the example", api.Mat{{4 * one, 2 * one}, {2 * one, 5 * one}}, api.Row{one, 2 * one}, 2, api.Mat{{8 * one, 12 * one}}, false},
		{"rows, not columns", api.Mat{{0, 3 * one}, {one, 0}}, api.Row{one, 2 * one}, 2, api.Mat{{6 * one, one}}, false},
		{"one alone", api.Mat{{4 * one, 2 * one}, {2 * one, 5 * one}}, api.Row{one, 2 * one}, 1, api.Mat{{4 * one}}, false},
		{"nothing", api.Mat{}, some(), 6, api.Mat{}, false},
		{"to nothing", signs(), api.Row{}, 6, api.Mat{}, false},
		{"three rows", signs(), some(), 3, api.Mat{{3026274861211, 2002681893450, 946926340656}}, false},
		{"six rows", signs(), some(), 6, api.Mat{{4259060625686, 4201705148998, 1938793473405, 2912396871192, 1383854195249, 2324681727295}}, false},
		{"each product is rounded", api.Mat{{1, 1}, {1, -1}}, api.Row{one / 2, one/2 - 1}, 2, api.Mat{{1, 1}}, false},
		{"the greatest", api.Mat{{one}}, api.Row{most}, 1, api.Mat{{most}}, false},
		{"the least", api.Mat{{-one}}, api.Row{most}, 1, api.Mat{{-most}}, false},
		{"a product past it", api.Mat{{one + 1}}, api.Row{most}, 1, api.Mat{}, true},
		{"a product past it in the last row", api.Mat{{one}, {0, one + 1}}, api.Row{one, most}, 2, api.Mat{}, true},
		{"a sum past it", ones, api.Row{most, 1}, 2, api.Mat{}, true},
		{"down and up again", ones, api.Row{most, -most, most}, 3, api.Mat{{most, -most, most}}, false},
		{"up first", ones, api.Row{most, most, -most}, 3, api.Mat{}, true},
	})
}

// op: a call of the package; of a row the answer is a matrix of which it is the first.
type op struct {
	name  string
	do    func(f *fixed.Flow, m api.Mat, b api.Row, n int) api.Mat
	exact func(e *exact, m table, b list, n int) table
	// Whether what stands above the diagonal plays a part, and whether a row does.
	above, row bool
}

func ops() []op {
	return []op{
		{"Root",
			func(f *fixed.Flow, m api.Mat, _ api.Row, n int) api.Mat { return mat.Root(f, m, n) },
			func(e *exact, m table, _ list, n int) table { return e.root(m, n) }, false, false},
		{"Solve",
			func(f *fixed.Flow, m api.Mat, b api.Row, n int) api.Mat { return api.Mat{mat.Solve(f, m, b, n)} },
			func(e *exact, m table, b list, n int) table { return table{e.solve(m, b, n)} }, false, true},
		{"Square",
			func(f *fixed.Flow, m api.Mat, _ api.Row, n int) api.Mat { return mat.Square(f, m, n) },
			func(e *exact, m table, _ list, n int) table { return e.square(m, n) }, true, false},
		{"Apply",
			func(f *fixed.Flow, m api.Mat, b api.Row, n int) api.Mat { return api.Mat{mat.Apply(f, m, b, n)} },
			func(e *exact, m table, b list, n int) table { return table{e.apply(m, b, n)} }, true, true},
	}
}

// plays tells whether a matrix's (i, j) plays a part in an op of n.
func (o op) plays(i, j, n int) bool { return i < n && j < n && (o.above || j <= i) }

// rowPlays tells whether a row's i plays a part in an op of n.
func (o op) rowPlays(i, n int) bool { return o.row && i < n }

func TestRowsThatAreNone(t *testing.T) {
	for _, o := range ops() {
		for _, n := range []int{0, 7, 8, -1, -6, 1 << 20, 1<<32 + 1, -1<<32 + 6, math.MaxInt, math.MinInt} {
			for _, m := range []api.Mat{slope(), {}} {
				f := &fixed.Flow{}
				if got := o.do(f, m, some(), n); got != (api.Mat{}) || !f.Bad {
					t.Errorf("%s of %d rows: %v, bad %v", o.name, n, got, f.Bad)
				}
			}
		}
	}
}

// none: what is no number.
func none() []int64 { return []int64{most + 1, -most - 1, math.MaxInt64, math.MinInt64} }

func TestNoNumberWhereItPlaysAPart(t *testing.T) {
	for _, o := range ops() {
		for n := 1; n <= 6; n++ {
			plain := o.do(&fixed.Flow{}, slope(), some(), n)
			if plain == (api.Mat{}) {
				t.Errorf("%s of %d answers nothing", o.name, n)
			}
			hold := func(m api.Mat, b api.Row, plays bool, where ...int) {
				t.Helper()
				want := plain
				if plays {
					want = api.Mat{}
				}
				f := &fixed.Flow{}
				if got := o.do(f, m, b, n); got != want || f.Bad != plays {
					t.Errorf("%s of %d, no number at %v: %v, bad %v; want %v, bad %v", o.name, n, where, got, f.Bad, want, plays)
				}
			}
			for _, a := range none() {
				for i := range 6 {
					for j := range 6 {
						m := slope()
						m[i][j] = a
						hold(m, some(), o.plays(i, j, n), i, j)
					}
					b := some()
					b[i] = a
					hold(slope(), b, o.rowPlays(i, n), i)
				}
			}
		}
	}
}

// What plays no part changes nothing, all of it at once; and what stands outside of n is 0.
func TestWhatPlaysNoPart(t *testing.T) {
	for _, o := range ops() {
		for n := 1; n <= 6; n++ {
			plain := o.do(&fixed.Flow{}, slope(), some(), n)
			if plain != first(plain, n) {
				t.Errorf("%s of %d answers outside of it: %v", o.name, n, plain)
			}
			for _, a := range append(none(), 0, 1, -one, 5*one, most, -most) {
				m, b := slope(), some()
				for i := range 6 {
					for j := range 6 {
						if !o.plays(i, j, n) {
							m[i][j] = a
						}
					}
					if !o.rowPlays(i, n) {
						b[i] = a
					}
				}
				f := &fixed.Flow{}
				if got := o.do(f, m, b, n); got != plain || f.Bad {
					t.Errorf("%s of %d with %d where it plays no part: %v, bad %v; want %v", o.name, n, a, got, f.Bad, plain)
				}
			}
		}
	}
}

func TestGoodFlowGoesOn(t *testing.T) {
	f := &fixed.Flow{}
	for range 2 {
		for _, o := range ops() {
			want, _ := wanted(o, slope(), some(), 6)
			if got := o.do(f, slope(), some(), 6); got != want || want == (api.Mat{}) || f.Bad {
				t.Errorf("%s: %v, bad %v; want %v", o.name, got, f.Bad, want)
			}
		}
	}
}

func TestBadAheadAndNil(t *testing.T) {
	full := api.Mat{}
	for i := range full {
		full[i] = api.Row{most, most, math.MaxInt64, math.MinInt64, -most, 1}
	}
	for _, o := range ops() {
		for _, m := range []api.Mat{slope(), {}, full} {
			for n := -1; n <= 8; n++ {
				f := &fixed.Flow{Bad: true}
				if got := o.do(f, m, some(), n); got != (api.Mat{}) || !f.Bad {
					t.Errorf("%s of %d in a bad flow: %v, bad %v", o.name, n, got, f.Bad)
				}
				if got := o.do(nil, m, some(), n); got != (api.Mat{}) {
					t.Errorf("%s of %d in no flow: %v", o.name, n, got)
				}
			}
		}
	}
}
