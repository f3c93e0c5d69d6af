package quat_test

import (
	"math"
	"testing"

	"alidade/api"
	"alidade/fixed"
	"alidade/quat"
)

const (
	one  = api.One
	most = api.Most
)

// call: a function with its arguments, and what it is to answer; bad is whether the flow is to be bad behind it.
type call struct {
	name string
	do   func(f *fixed.Flow) answer
	want answer
	bad  bool
}

func mul(p, q api.Quat) func(*fixed.Flow) answer {
	return func(f *fixed.Flow) answer { return four(quat.Mul(f, p, q)) }
}

func unit(q api.Quat) func(*fixed.Flow) answer {
	return func(f *fixed.Flow) answer { return four(quat.Unit(f, q)) }
}

func turn(q api.Quat, v api.Vec) func(*fixed.Flow) answer {
	return func(f *fixed.Flow) answer { return three(quat.Turn(f, q, v)) }
}

func fromRod(p api.Vec) func(*fixed.Flow) answer {
	return func(f *fixed.Flow) answer { return four(quat.FromRod(f, p)) }
}

func toRod(q api.Quat) func(*fixed.Flow) answer {
	return func(f *fixed.Flow) answer { return three(quat.ToRod(f, q)) }
}

func matrix(q api.Quat) func(*fixed.Flow) answer {
	return func(f *fixed.Flow) answer { return nine(quat.Matrix(f, q)) }
}

func fromMatrix(m [3]api.Vec) func(*fixed.Flow) answer {
	return func(f *fixed.Flow) answer { return four(quat.FromMatrix(f, m)) }
}

func check(t *testing.T, calls []call) {
	t.Helper()
	for _, c := range calls {
		f := &fixed.Flow{}
		got := c.do(f)
		if got != c.want || f.Bad != c.bad {
			t.Errorf("%s: %v, bad %v; want %v, bad %v", c.name, got, f.Bad, c.want, c.bad)
		}
	}
}

// none: no turn at all.
func none() api.Quat { return api.Quat{0, 0, 0, one} }

func TestMul(t *testing.T) {
	p := api.Quat{366503875925, -219902325555, 157073089682, 549755813888}
	q := api.Quat{99955602525, 84577817521, -64677154575, -57869033041}
	x, y, z := api.Quat{one}, api.Quat{0, one}, api.Quat{0, 0, one}
	check(t, []call{
		{"nothing behind nothing", mul(none(), none()), answer{0, 0, 0, one}, false},
		{"behind nothing", mul(p, none()), four(p), false},
		{"nothing behind it", mul(none(), p), four(p), false},
		{"first q, then p", mul(p, q), answer{29835238028, 18024292055, -88789308353, -36097893681}, false},
		{"first p, then q", mul(q, p), answer{31541009138, 89701138683, 7578144337, -36097893681}, false},
		{"first y, then x", mul(x, y), answer{0, 0, -one, 0}, false},
		{"first x, then y", mul(y, x), answer{0, 0, one, 0}, false},
		{"first z, then y", mul(y, z), answer{-one, 0, 0, 0}, false},
		{"first x, then z", mul(z, x), answer{0, -one, 0, 0}, false},
		{"half a turn twice", mul(z, z), answer{0, 0, 0, -one}, false},
		{"each product is rounded", mul(api.Quat{1, 0, 0, 1}, api.Quat{one / 2, one / 2, one / 2, one / 2}), answer{2, 2, 0, 0}, false},
		{"up to most", mul(api.Quat{0, 0, 0, most}, api.Quat{one, -one, one, one}), answer{most, -most, most, most}, false},
		{"too much in w alone", mul(api.Quat{0, 0, 1 << 51, 1 << 51}, api.Quat{0, 0, -1 << 51, 1 << 51}), answer{}, true},
		{"too much in w's first product alone", mul(api.Quat{1, 2, 3, most}, api.Quat{1, 2, 3, one + 1}), answer{}, true},
		{"too much in the last of the vector alone", mul(api.Quat{0, 0, 1 << 51, 1 << 51}, api.Quat{0, 0, 1<<51 + 1, 1 << 51}), answer{}, true},
		{"p's w is no number", mul(api.Quat{0, 0, 0, most + 1}, api.Quat{}), answer{}, true},
		{"q's w is no number", mul(api.Quat{}, api.Quat{0, 0, 0, -most - 1}), answer{}, true},
		{"a part of p is no number", mul(api.Quat{0, 0, most + 1, 0}, api.Quat{}), answer{}, true},
		{"a part of q is no number", mul(api.Quat{}, api.Quat{-most - 1}), answer{}, true},
	})
}

func TestBack(t *testing.T) {
	for _, c := range []struct{ q, want api.Quat }{
		{api.Quat{}, api.Quat{}},
		{api.Quat{1, 2, 3, 4}, api.Quat{-1, -2, -3, 4}},
		{api.Quat{-1, 2, -3, -4}, api.Quat{1, -2, 3, -4}},
		{api.Quat{most, -most, most, most}, api.Quat{-most, most, -most, most}},
		{api.Quat{-most, most, -most, -most}, api.Quat{most, -most, most, -most}},
		{api.Quat{most - 1, 1 - most, 7, 8}, api.Quat{1 - most, most - 1, -7, 8}},
		{api.Quat{most + 1, 2, 3, 4}, api.Quat{most + 1, -2, -3, 4}},
		{api.Quat{1, -most - 1, 3, 4}, api.Quat{-1, -most - 1, -3, 4}},
		{api.Quat{1, 2, math.MaxInt64, 4}, api.Quat{-1, -2, math.MaxInt64, 4}},
		{api.Quat{math.MinInt64, math.MinInt64, math.MinInt64, 4}, api.Quat{math.MinInt64, math.MinInt64, math.MinInt64, 4}},
		{api.Quat{1, 2, 3, most + 1}, api.Quat{-1, -2, -3, most + 1}},
		{api.Quat{1, 2, 3, math.MinInt64}, api.Quat{-1, -2, -3, math.MinInt64}},
	} {
		if got := quat.Back(c.q); got != c.want {
			t.Errorf("back of %v: %v; want %v", c.q, got, c.want)
		}
	}
}

func TestUnit(t *testing.T) {
	check(t, []call{
		{"plain", unit(api.Quat{one, -2 * one, 3 * one, 4 * one}), answer{200742440257, -401484880515, 602227320772, 802969761030}, false},
		{"w below 0", unit(api.Quat{one, -2 * one, 3 * one, -4 * one}), answer{-200742440257, 401484880515, -602227320772, 802969761030}, false},
		{"w of 0", unit(api.Quat{one, -2 * one, 3 * one, 0}), answer{293856843137, -587713686273, 881570529410, 0}, false},
		{"w of 0, x below it", unit(api.Quat{-one, 2 * one, -3 * one, 0}), answer{-293856843137, 587713686273, -881570529410, 0}, false},
		{"a w that is least above 0", unit(api.Quat{-one, 0, 0, 1}), answer{-one, 0, 0, 1}, false},
		{"a w that is least below 0", unit(api.Quat{-one, 0, 0, -1}), answer{one, 0, 0, 1}, false},
		{"a w below 0 that is rounded to less", unit(api.Quat{2 * one, 0, 0, -1}), answer{-2 * one / 2, 0, 0, 1}, false},
		{"a w below 0 that is rounded to 0", unit(api.Quat{4 * one, 7, 5, -1}), answer{one, 2, 1, 0}, false},
		{"none", unit(none()), answer{0, 0, 0, one}, false},
		{"none with the other sign", unit(api.Quat{0, 0, 0, -one}), answer{0, 0, 0, one}, false},
		{"n of 2^39", unit(api.Quat{0, -1 << 39, 0, 0}), answer{0, -one, 0, 0}, false},
		{"n of 2^39, of w", unit(api.Quat{0, 0, 0, -1 << 39}), answer{0, 0, 0, one}, false},
		{"n of 2^39, cut", unit(api.Quat{1 << 39, 1, 1, 1}), answer{one, 2, 2, 2}, false},
		{"n is cut by nearly one", unit(api.Quat{1 << 39, 0, 0, 1 << 20}), answer{one, 0, 0, 1 << 21}, false},
		{"n one below 2^39", unit(api.Quat{0, 0, 1<<39 - 1, 0}), answer{}, true},
		{"n one below 2^39, of w", unit(api.Quat{0, 0, 0, 1 - 1<<39}), answer{}, true},
		{"n below 2^39 as both norms are cut", unit(api.Quat{476102493576, 1380003, 1301, 1<<38 + 12345}), answer{}, true},
		{"least", unit(api.Quat{1}), answer{}, true},
		{"nothing", unit(api.Quat{}), answer{}, true},
		{"most", unit(api.Quat{0, 0, -most, 0}), answer{0, 0, -one, 0}, false},
		{"just most", unit(api.Quat{1 << 61, 1 << 61, -1 << 61, -1 << 61}), answer{-one / 2, -one / 2, one / 2, one / 2}, false},
		{"the vector's norm is no number", unit(api.Quat{most, most, 0, one}), answer{}, true},
		{"n is no number", unit(api.Quat{most, 0, 0, most}), answer{}, true},
		{"x is no number", unit(api.Quat{most + 1, 0, 0, one}), answer{}, true},
		{"w is no number", unit(api.Quat{one, 0, 0, -most - 1}), answer{}, true},
	})
}

func TestTurn(t *testing.T) {
	q := api.Quat{200742440257, -401484880515, 602227320772, 802969761030}
	quarter := api.Quat{0, 0, 777472127994, 777472127994}
	check(t, []call{
		{"not at all", turn(none(), api.Vec{most, -most, 1}), answer{most, -most, 1}, false},
		{"nothing", turn(q, api.Vec{}), answer{}, false},
		{"plain", turn(q, api.Vec{5 * one, -6 * one, 7 * one}), answer{1979120929996, -8356288371105, 7696581394424}, false},
		{"a quarter about z: x", turn(quarter, api.Vec{one}), answer{0, -one, 0}, false},
		{"a quarter about z: y", turn(quarter, api.Vec{0, one}), answer{one, 0, 0}, false},
		{"a quarter about z: z", turn(quarter, api.Vec{0, 0, one}), answer{0, 0, one}, false},
		{"half about x", turn(api.Quat{one}, api.Vec{one, 2 * one, 3 * one}), answer{one, -2 * one, -3 * one}, false},
		{"half about y", turn(api.Quat{0, one}, api.Vec{one, 2 * one, 3 * one}), answer{-one, 2 * one, -3 * one}, false},
		{"half about z", turn(api.Quat{0, 0, one}, api.Vec{one, 2 * one, 3 * one}), answer{-one, -2 * one, 3 * one}, false},
		{"too much when doubled alone", turn(api.Quat{one / 2}, api.Vec{0, most, 0}), answer{0, most - most/2, 0}, false},
		{"too much when doubled", turn(api.Quat{one/2 + 1}, api.Vec{0, most, 0}), answer{}, true},
		{"too much in the last part alone", turn(api.Quat{1<<50 + one, 1<<50 + one, 0, 0}, api.Vec{0, 0, one}), answer{}, true},
		{"a part of q is no number", turn(api.Quat{most + 1}, api.Vec{}), answer{}, true},
		{"w is no number", turn(api.Quat{0, 0, 0, -most - 1}, api.Vec{}), answer{}, true},
		{"a part of v is no number", turn(api.Quat{}, api.Vec{0, 0, most + 1}), answer{}, true},
	})
}

func TestFromRod(t *testing.T) {
	check(t, []call{
		{"nothing", fromRod(api.Vec{}), answer{0, 0, 0, one}, false},
		{"plain", fromRod(api.Vec{one / 8, -one / 16, one / 32}), answer{68631509103, -34315754552, 17157877276, 1096696663536}, false},
		{"half a turn", fromRod(api.Vec{4 * one}), answer{one, 0, 0, 0}, false},
		{"half a turn the other way", fromRod(api.Vec{0, -4 * one}), answer{0, -one, 0, 0}, false},
		{"past half a turn", fromRod(api.Vec{5 * one, -one, 0}), answer{-1047153931216, 209430786243, 0, 261788482804}, false},
		{"twice past half a turn", fromRod(api.Vec{0, 8 * one}), answer{0, -879609302221, 0, 659706976666}, false},
		{"e is most", fromRod(api.Vec{2251795518713855, 66846205, 741455}), answer{-4294959104, -127, -1, 1099503239168}, false},
		{"e is one past most", fromRod(api.Vec{2251795518713855, 66846205, 741456}), answer{}, true},
		{"d is most", fromRod(api.Vec{1 << 51}), answer{}, true},
		{"d is too much", fromRod(api.Vec{0, 0, 1 << 52}), answer{}, true},
		{"a part is too much by 8", fromRod(api.Vec{1 << 60}), answer{}, true},
		{"a part is no number", fromRod(api.Vec{0, 0, most + 1}), answer{}, true},
		{"a part is no number below", fromRod(api.Vec{-most - 1}), answer{}, true},
	})
}

func TestToRod(t *testing.T) {
	check(t, []call{
		{"none", toRod(none()), answer{}, false},
		{"plain", toRod(api.Quat{200742440257, -401484880515, 602227320772, 802969761030}), answer{464064770461, -928129540925, 1392194311386}, false},
		{"w below 0", toRod(api.Quat{-200742440257, 401484880515, -602227320772, -802969761030}), answer{464064770461, -928129540925, 1392194311386}, false},
		{"w of 0", toRod(api.Quat{one / 2, -one / 2, one / 2, 0}), answer{2 * one, -2 * one, 2 * one}, false},
		{"a w that is least above 0", toRod(api.Quat{one / 2, -one / 2, one / 2, 1}), answer{2*one - 2, 2 - 2*one, 2*one - 2}, false},
		{"a w that is least below 0", toRod(api.Quat{one / 2, -one / 2, one / 2, -1}), answer{2 - 2*one, 2*one - 2, 2 - 2*one}, false},
		{"a w of -One", toRod(api.Quat{0, 0, 0, -one}), answer{}, false},
		{"a w of -One beside others", toRod(api.Quat{one, 2 * one, -3 * one, -one}), answer{-2 * one, -4 * one, 6 * one}, false},
		{"e is most", toRod(api.Quat{1 << 60, -1 << 60, one, most - one}), answer{one, -one, 1 << 20}, false},
		{"e is one past most", toRod(api.Quat{1, 1, 1, most - one + 1}), answer{}, true},
		{"e is one past most of a w below 0", toRod(api.Quat{1, 1, 1, one - most - 1}), answer{}, true},
		{"up to most", toRod(api.Quat{1 << 60, -1 << 60, 3, 0}), answer{most, -most, 12}, false},
		{"too much by 4, first part alone", toRod(api.Quat{1<<60 + 1, 2, 3, one}), answer{}, true},
		{"too much by 4, last part alone", toRod(api.Quat{1, 2, 1<<60 + 1, one}), answer{}, true},
		{"too much by 4 below, last part alone", toRod(api.Quat{1, 2, -1<<60 - 1, one}), answer{}, true},
		{"w is no number", toRod(api.Quat{1, 2, 3, most + 1}), answer{}, true},
		{"w is no number below", toRod(api.Quat{1, 2, 3, math.MinInt64}), answer{}, true},
		{"the last part is no number", toRod(api.Quat{1, 2, math.MinInt64, -one}), answer{}, true},
	})
}

func TestMatrix(t *testing.T) {
	q := api.Quat{200742440257, -401484880515, 602227320772, 802969761030}
	check(t, []call{
		{"none", matrix(none()), answer{one, 0, 0, 0, one, 0, 0, 0, one}, false},
		{"nothing turns nothing", matrix(api.Quat{}), answer{one, 0, 0, 0, one, 0, 0, 0, one}, false},
		{"plain", matrix(q), answer{
			146601550370, 733007751851, 806308527036,
			-1026210852591, 366503875926, -146601550371,
			-366503875926, -733007751851, 733007751850}, false},
		{"a quarter about z", matrix(api.Quat{0, 0, 777472127994, 777472127994}), answer{0, one, 0, -one, 0, 0, 0, 0, one}, false},
		{"half about y", matrix(api.Quat{0, one}), answer{-one, 0, 0, 0, one, 0, 0, 0, -one}, false},
		{"too much in the last part alone", matrix(api.Quat{1<<50 + one, 1<<50 + one, 0, 0}), answer{}, true},
		{"too much in the last two columns alone", matrix(api.Quat{1<<51 + one, 0, 0, 0}), answer{}, true},
		{"x is no number", matrix(api.Quat{most + 1}), answer{}, true},
		{"w is no number", matrix(api.Quat{0, 0, 0, -most - 1}), answer{}, true},
	})
}

// diagonal: a matrix with these on its diagonal, and one to six quarters beside it, row by row.
func diagonal(m00, m11, m22 int64) [3]api.Vec {
	const quarter = one / 4
	return [3]api.Vec{
		{m00, quarter, 2 * quarter},
		{3 * quarter, m11, 4 * quarter},
		{5 * quarter, 6 * quarter, m22},
	}
}

func TestFromMatrix(t *testing.T) {
	byT := answer{-244335917284, 366503875925, -244335917284, 977343669135}
	byM00 := answer{-904047544412, -301349181471, -527361067573, 150674590735}
	byM11 := answer{268153628454, 804460885361, 670384071135, 201115221340}
	check(t, []call{
		{"none", fromMatrix([3]api.Vec{{one}, {0, one}, {0, 0, one}}), answer{0, 0, 0, one}, false},
		{"nothing", fromMatrix([3]api.Vec{}), answer{0, 0, 0, one}, false},
		{"half about x", fromMatrix([3]api.Vec{{one}, {0, -one}, {0, 0, -one}}), answer{one, 0, 0, 0}, false},
		{"half about y", fromMatrix([3]api.Vec{{-one}, {0, one}, {0, 0, -one}}), answer{0, one, 0, 0}, false},
		{"half about z", fromMatrix([3]api.Vec{{-one}, {0, -one}, {0, 0, one}}), answer{0, 0, one, 0}, false},
		{"a quarter about z", fromMatrix([3]api.Vec{{0, one}, {-one}, {0, 0, one}}), answer{0, 0, 777472127994, 777472127994}, false},

		{"by t", fromMatrix(diagonal(one, one, one)), answer{-133090941924, 199636412886, -133090941924, 1064727535391}, false},
		{"by m00", fromMatrix(diagonal(one, -one/2, -one/2)), byM00, false},
		{"by m11", fromMatrix(diagonal(0, one, -one)), byM11, false},
		{"by m22", fromMatrix(diagonal(-one, 0, one)), answer{-446600949338, -638001356198, -765601627437, 127600271240}, false},
		{"m00 is one above t", fromMatrix(diagonal(one, -1, 0)), answer{-762717995242, -381358997621, -667378245837, 190679498810}, false},

		{"all four are the greatest: t", fromMatrix(diagonal(0, 0, 0)), answer{-382800813719, 574201220578, -382800813719, 765601627438}, false},
		{"t and m00: t", fromMatrix(diagonal(one, 0, 0)), byT, false},
		{"t and m11: t", fromMatrix(diagonal(-one/2, one, one/2)), byT, false},
		{"t and m22: t", fromMatrix(diagonal(one/2, -one/2, one)), byT, false},
		{"t, m00 and m11: t", fromMatrix(diagonal(one, one, -one)), byT, false},
		{"t, m00 and m22: t", fromMatrix(diagonal(one, -one, one)), byT, false},
		{"t, m11 and m22: t", fromMatrix(diagonal(-one, one, one)), byT, false},
		{"m00 and m11: m00", fromMatrix(diagonal(one, one, -2*one)), byM00, false},
		{"m00 and m22: m00", fromMatrix(diagonal(one, -2*one, one)), byM00, false},
		{"m11 and m22: m11", fromMatrix(diagonal(-2*one, one, one)), byM11, false},
		{"m00, m11 and m22: m00", fromMatrix(diagonal(-one, -one, -one)), answer{-762717995242, -381358997621, -667378245837, 190679498810}, false},

		{"t is no number", fromMatrix([3]api.Vec{{most}, {0, 1}, {0, 0, -5}}), answer{}, true},
		{"the last part alone, by t", fromMatrix(diagonal(most, 0, 0)), answer{}, true},
		{"the last part alone, by m00", fromMatrix([3]api.Vec{{one}, {0, -one, most}, {0, -1, -one}}), answer{}, true},
		{"the last part alone, by m11", fromMatrix([3]api.Vec{{-one, 0, 1}, {0, one, 0}, {-most, 0, -one}}), answer{}, true},
		{"the last part alone, by m22", fromMatrix([3]api.Vec{{-one, most, 0}, {-1, -one, 0}, {0, 0, one}}), answer{}, true},
		{"a part beside the diagonal is no number", fromMatrix([3]api.Vec{{one, 0, most + 1}, {0, one}, {0, 0, one}}), answer{}, true},
		{"a part of the diagonal is no number", fromMatrix([3]api.Vec{{one}, {0, -most - 1}, {0, 0, one}}), answer{}, true},
	})
}

// plain: numbers of which each op answers something else than 0.
func plain() []int64 {
	return []int64{one, 2 * one, -3 * one, 4 * one, -5 * one, 6 * one, 7 * one, -8 * one, 9 * one}
}

func TestNoNumberAtAnyPlace(t *testing.T) {
	for _, o := range ops() {
		for place := range o.takes {
			for _, none := range []int64{most + 1, -most - 1, math.MaxInt64, math.MinInt64} {
				n := plain()
				n[place] = none
				f := &fixed.Flow{}
				if got := o.do(f, n); got != (answer{}) || !f.Bad {
					t.Errorf("%s with %d at %d: %v, bad %v", o.name, none, place, got, f.Bad)
				}
			}
		}
	}
}

func TestGoodFlowGoesOn(t *testing.T) {
	f := &fixed.Flow{}
	for range 2 {
		for _, o := range ops() {
			want, _ := wanted(o, plain())
			if got := o.do(f, plain()); got != want || want == (answer{}) || f.Bad {
				t.Errorf("%s: %v, bad %v; want %v", o.name, got, f.Bad, want)
			}
		}
	}
}

func TestFlowHandedInBad(t *testing.T) {
	for _, o := range ops() {
		for _, n := range [][]int64{plain(), make([]int64, 9), {most, most, most, most, most, most, most, most, most}} {
			f := &fixed.Flow{Bad: true}
			if got := o.do(f, n); got != (answer{}) || !f.Bad {
				t.Errorf("%s of %v: %v, bad %v", o.name, n, got, f.Bad)
			}
		}
	}
}

func TestBadFlowStaysBad(t *testing.T) {
	for _, first := range ops() {
		f := &fixed.Flow{}
		first.do(f, []int64{most + 1, 0, 0, 0, 0, 0, 0, 0, 0})
		for _, o := range ops() {
			if got := o.do(f, plain()); got != (answer{}) || !f.Bad {
				t.Errorf("%s behind %s: %v, bad %v", o.name, first.name, got, f.Bad)
			}
		}
	}
}

func TestNilFlow(t *testing.T) {
	for _, o := range ops() {
		for _, n := range [][]int64{
			plain(), make([]int64, 9),
			{most, most, most, most, most, most, most, most, most},
			{math.MinInt64, 0, 0, math.MaxInt64, 0, 0, math.MinInt64, math.MinInt64, math.MinInt64},
			{0, 0, 0, -one, one, one, one, one, one},
		} {
			if got := o.do(nil, n); got != (answer{}) {
				t.Errorf("%s of %v: %v", o.name, n, got)
			}
		}
	}
}
