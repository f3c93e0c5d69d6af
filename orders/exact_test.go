package orders_test

import (
	"encoding/binary"
	"math/big"
	"strings"
	"testing"

	"alidade/api"
	"alidade/orders"
)

// The chapter's rules, laid out as lines: each has all that is to hold for it, and no line leans on the ones ahead of it. So just one of them applies. Elements are held against layer 8's words with integers of any size.

// product: a b in units of 2^-40, rounded, a half away from 0; false, if it or a factor is no number.
func product(a, b int64) (*big.Int, bool) {
	p := new(big.Int).Mul(big.NewInt(a), big.NewInt(b))
	sign := big.NewInt(int64(p.Sign()))
	p.Abs(p).Add(p, big.NewInt(one/2)).Rsh(p, 40).Mul(p, sign)
	number := func(n *big.Int) bool { return n.CmpAbs(big.NewInt(most)) <= 0 }
	return p, number(p) && number(big.NewInt(a)) && number(big.NewInt(b))
}

func within(n, first, final int64) bool { return first <= n && n <= final }

// right: are these elements right, by layer 8's words?
func right(o api.Orbit) bool {
	if !within(o.E, 0, mostE) {
		return false
	}
	near, nearOk := product(o.A, one-o.E)
	far, farOk := product(o.A, one+o.E)
	return nearOk && farOk && near.Cmp(big.NewInt(lowest)) >= 0 && far.Cmp(big.NewInt(highest)) <= 0 &&
		within(o.I, 0, half) && within(o.Node, -full, full) && within(o.Peri, -full, full) && within(o.M, -full, full) && within(o.At, 0, last)
}

// numberAt: that of eight bytes, by their worth; 0 where there are none.
func numberAt(s string, place int) int64 {
	if len(s) < 8*place+8 {
		return 0
	}
	return int64(binary.BigEndian.Uint64([]byte(s[8*place : 8*place+8])))
}

func elementsOf(s string) api.Orbit {
	return elements(numberAt(s, 0), numberAt(s, 1), numberAt(s, 2), numberAt(s, 3), numberAt(s, 4), numberAt(s, 5), numberAt(s, 6))
}

// line: when it applies, and what Read answers then.
type line struct {
	name    string
	applies bool
	want    api.Order
	wrong   int
}

func linesOf(x api.Frame) []line {
	long, mine := len(x.Data) >= 2, x.Kind == order
	seq, code, tail := 0, 0, ""
	if long {
		seq, code, tail = int(x.Data[0]), int(x.Data[1]), x.Data[2:]
	}
	known := long && mine && within(int64(code), 1, 4)
	plain, placed := known && code != orbit, known && code == orbit
	o := elementsOf(tail)
	only := api.Order{Seq: seq}
	return []line{
		{"short", !long, api.Order{}, 1},
		{"foreign", long && !mine, only, 1},
		{"no code", long && mine && !known, only, 2},
		{"plain, too long", plain && tail != "", only, 1},
		{"orbit, another length", placed && len(tail) != 56, only, 1},
		{"orbit, wrong elements", placed && len(tail) == 56 && !right(o), only, 3},
		{"orbit", placed && len(tail) == 56 && right(o), api.Order{Seq: seq, Code: orbit, Orbit: o}, 0},
		{"plain", plain && tail == "", api.Order{Seq: seq, Code: code}, 0},
	}
}

// compare holds Read against the one line that applies, and answers its name.
func compare(t *testing.T, x api.Frame) string {
	t.Helper()
	var found *line
	all := linesOf(x)
	for i := range all {
		if !all[i].applies {
			continue
		}
		if found != nil {
			t.Fatalf("%d, %X: both %s and %s", x.Kind, x.Data, found.name, all[i].name)
		}
		found = &all[i]
	}
	if found == nil {
		t.Fatalf("%d, %X: no line", x.Kind, x.Data)
	}
	if got, wrong := orders.Read(x); got != found.want || wrong != found.wrong {
		t.Fatalf("%s: Read(%d, %X): %+v, %d; want %+v, %d", found.name, x.Kind, x.Data, got, wrong, found.want, found.wrong)
	}
	return found.name
}

// compareWrite holds Write against what is to be written, and answers whether something is.
func compareWrite(t *testing.T, o api.Order) bool {
	t.Helper()
	fits := within(int64(o.Seq), 0, 255) && within(int64(o.Code), 1, 4) && (o.Code != orbit || right(o.Orbit))
	var want api.Frame
	if fits {
		want = api.Frame{Kind: order, Data: head(o.Seq, o.Code)}
		if o.Code == orbit {
			want.Data += bytesOf(o.Orbit)
		}
	}
	if got, ok := orders.Write(o); got != want || ok != fits {
		t.Fatalf("Write(%+v): %d, %X, %v; want %X, %v", o, got.Kind, got.Data, ok, want.Data, fits)
	}
	return fits
}

// met: how often each line was compared.
type met map[string]int

// all tells lines that were hardly compared.
func (m met) all(t *testing.T, fewest int) {
	t.Helper()
	for _, l := range linesOf(api.Frame{}) {
		if m[l.name] < fewest {
			t.Errorf("%s: met %d times", l.name, m[l.name])
		}
	}
}

// Every kind, length and code beside each other, with right elements, with those of an edge, and with others.
func TestReadByLines(t *testing.T) {
	times := met{}
	tails := []string{
		strings.Repeat(bytesOf(good()), 2),
		strings.Repeat(bytesOf(changed(good(), 6, last+1)), 2),
		strings.Repeat("\x00", 112),
		strings.Repeat("\xFF", 112),
	}
	for _, kind := range append(foreign(), order) {
		for code := range 256 {
			for i, tail := range tails {
				all := head(code*11+i, code) + tail
				for _, n := range []int{0, 1, 2, 3, 9, 10, 56, 57, 58, 59, 64, 65, 114} {
					times[compare(t, api.Frame{Kind: kind, Data: all[:n]})]++
				}
			}
		}
	}
	for i, e := range edges() {
		if right(e.o) != e.right {
			t.Errorf("%s: %+v", e.name, e.o)
		}
		for _, code := range []int{0, 1, 2, 3, 4, 5} {
			times[compare(t, api.Frame{Kind: order, Data: head(i, code) + bytesOf(e.o)})]++
			compareWrite(t, api.Order{Seq: i % 256, Code: code, Orbit: e.o})
		}
	}
	times.all(t, 10)
}

// dice: numbers that look thrown, and are the same each time.
type dice uint64

func (d *dice) next() uint64 {
	*d += 0x9E3779B97F4A7C15
	z := uint64(*d)
	z = (z ^ z>>30) * 0xBF58476D1CE4E5B9
	z = (z ^ z>>27) * 0x94D049BB133111EB
	return z ^ z>>31
}

func (d *dice) below(n int) int { return int(d.next() % uint64(n)) }

// between: both ends are thrown, too.
func (d *dice) between(first, final int64) int64 {
	return first + int64(d.next()%uint64(final-first+1))
}

// integer: of any size: small ones are as frequent as great ones.
func (d *dice) integer() int64 { return int64(d.next()) >> d.below(64) }

// orbit: elements that are mostly right.
func (d *dice) orbit() api.Orbit {
	e := d.between(0, mostE)
	if d.below(4) == 0 {
		e = d.between(0, 100)
	}
	o := elements(d.between(lowest, highest), e, d.between(0, half), d.between(-full, full), d.between(-full, full), d.between(-full, full), d.between(0, last))
	if d.below(4) != 0 {
		// Between what the nearest and the farthest let A be.
		o.A = d.between(8036375689555, 8374417318731)
	}
	if d.below(4) == 0 {
		o = changed(o, d.below(7), d.integer())
	}
	return o
}

// bytes: a few at will.
func (d *dice) bytes(n int) string {
	var s []byte
	for range n {
		s = append(s, byte(d.next()))
	}
	return string(s)
}

// frame: mostly of an order's kind, a code's length, and elements.
func (d *dice) frame() api.Frame {
	x := api.Frame{Kind: order, Data: d.bytes(1) + string([]byte{byte(d.below(6))})}
	switch d.below(8) {
	case 0:
		x.Data += d.bytes(d.below(70))
	case 1:
		x.Data += d.bytes(56)
	case 2, 3, 4, 5:
		x.Data = x.Data[:1] + "\x03" + bytesOf(d.orbit())
	}
	switch d.below(16) {
	case 0:
		x.Kind = d.below(256)
	case 1:
		x.Kind = int(d.integer())
	case 2:
		x.Data = d.bytes(d.below(70))
	}
	return x
}

func TestReadOfThrownFrames(t *testing.T) {
	thrown := dice(161)
	times := met{}
	for range 200000 {
		times[compare(t, thrown.frame())]++
	}
	times.all(t, 100)
}

// order: mostly a right one.
func (d *dice) order() api.Order {
	o := api.Order{Seq: d.below(256), Code: 1 + d.below(4), Orbit: d.orbit()}
	switch d.below(8) {
	case 0:
		o.Seq = int(d.integer())
	case 1:
		o.Code = int(d.integer())
	case 2:
		o.Code = d.below(256)
	}
	return o
}

func TestWriteOfThrownOrders(t *testing.T) {
	thrown := dice(162)
	times := map[bool]int{}
	for range 200000 {
		times[compareWrite(t, thrown.order())]++
	}
	if times[true] < 50000 || times[false] < 20000 {
		t.Errorf("written and not: %v", times)
	}
}
