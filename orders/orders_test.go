package orders_test

import (
	"encoding/binary"
	"math"
	"strings"
	"testing"

	"alidade/api"
	"alidade/orders"
)

// Written out here, for the tests aren't to share the program's own numbers.
const (
	one   = int64(1) << 40
	most  = int64(1) << 62
	half  = int64(3454217652358)
	full  = int64(6908435304716)
	last  = int64(157766400000)
	mostE = int64(109951162777)

	lowest  = int64(7232738120604)
	highest = int64(9211859050600)

	order = 16

	safe  = 1
	wake  = 2
	orbit = 3
	clear = 4

	form    = 1
	noCode  = 2
	unright = 3

	least    = math.MinInt
	greatest = math.MaxInt
)

// plainCodes: those without elements.
func plainCodes() []int { return []int{safe, wake, clear} }

// foreign: kinds that aren't an order's, those among them whose lowest byte is.
func foreign() []int {
	return []int{0, 1, 2, 3, 15, 17, 32, 255, 256, 272, 16 + 1<<16, 16 + 1<<32, -1, -16, -240, least, least + 16, greatest}
}

func elements(a, e, i, node, peri, m, at int64) api.Orbit {
	return api.Orbit{A: a, E: e, I: i, Node: node, Peri: peri, M: m, At: at}
}

// good: right elements, of which each number is another.
func good() api.Orbit {
	return elements(15*one/2, one/20, one, -2*one, 3*one, -4*one, 86400000)
}

// numbersOf: in the order in which they are written.
func numbersOf(o api.Orbit) [7]int64 {
	return [7]int64{o.A, o.E, o.I, o.Node, o.Peri, o.M, o.At}
}

// changed answers o with another integer in one of its fields, counted from 0.
func changed(o api.Orbit, field int, to int64) api.Orbit {
	n := numbersOf(o)
	n[field] = to
	return elements(n[0], n[1], n[2], n[3], n[4], n[5], n[6])
}

// bytesOf: an orbit's 56 bytes, right or not.
func bytesOf(o api.Orbit) string {
	var s []byte
	for _, n := range numbersOf(o) {
		s = binary.BigEndian.AppendUint64(s, uint64(n))
	}
	return string(s)
}

func head(seq, code int) string { return string([]byte{byte(seq), byte(code)}) }

// reads holds Read against what is asked of it.
func reads(t *testing.T, name string, x api.Frame, want api.Order, wrong int) {
	t.Helper()
	if got, e := orders.Read(x); got != want || e != wrong {
		t.Errorf("%s: Read(%d, %X): %+v, %d; want %+v, %d", name, x.Kind, x.Data, got, e, want, wrong)
	}
}

// writes holds Write against the frame of these bytes.
func writes(t *testing.T, name string, o api.Order, data string) {
	t.Helper()
	want := api.Frame{Kind: order, Data: data}
	if got, ok := orders.Write(o); got != want || !ok {
		t.Errorf("%s: Write(%+v): %d, %X, %v; want %X", name, o, got.Kind, got.Data, ok, data)
	}
}

func writesNone(t *testing.T, name string, o api.Order) {
	t.Helper()
	if got, ok := orders.Write(o); got != (api.Frame{}) || ok {
		t.Errorf("%s: Write(%+v): %d, %X, %v", name, o, got.Kind, got.Data, ok)
	}
}

// The chapter's own example.
func TestExample(t *testing.T) {
	writes(t, "number 5, safe", api.Order{Seq: 5, Code: safe}, "\x05\x01")
	reads(t, "number 5, safe", api.Frame{Kind: order, Data: "\x05\x01"}, api.Order{Seq: 5, Code: safe}, 0)
}

// Each number's bytes, written out.
func TestEachByteInItsPlace(t *testing.T) {
	o := api.Order{Seq: 0xC3, Code: orbit, Orbit: elements(
		0x0000070102030405,
		0x0000000A0B0C0D0E,
		0x0000011121314151,
		-0x0000021222324252,
		0x0000031323334353,
		-1,
		0x0000001415161718,
	)}
	data := "\xC3\x03" +
		"\x00\x00\x07\x01\x02\x03\x04\x05" +
		"\x00\x00\x00\x0A\x0B\x0C\x0D\x0E" +
		"\x00\x00\x01\x11\x21\x31\x41\x51" +
		"\xFF\xFF\xFD\xED\xDD\xCD\xBD\xAE" +
		"\x00\x00\x03\x13\x23\x33\x43\x53" +
		"\xFF\xFF\xFF\xFF\xFF\xFF\xFF\xFF" +
		"\x00\x00\x00\x14\x15\x16\x17\x18"
	writes(t, "bytes", o, data)
	reads(t, "bytes", api.Frame{Kind: order, Data: data}, o, 0)
	turned := o
	turned.Orbit.Node, turned.Orbit.Peri, turned.Orbit.M = o.Orbit.Peri, o.Orbit.M, o.Orbit.Node
	other := data[:26] + data[34:50] + data[26:34] + data[50:]
	writes(t, "other places", turned, other)
	reads(t, "other places", api.Frame{Kind: order, Data: other}, turned, 0)
}

func TestReadOfPlainCodes(t *testing.T) {
	for _, code := range plainCodes() {
		for seq := range 256 {
			reads(t, "plain", api.Frame{Kind: order, Data: head(seq, code)}, api.Order{Seq: seq, Code: code}, 0)
		}
	}
}

func TestReadOfOrbit(t *testing.T) {
	for seq := range 256 {
		x := api.Frame{Kind: order, Data: head(seq, orbit) + bytesOf(good())}
		reads(t, "orbit", x, api.Order{Seq: seq, Code: orbit, Orbit: good()}, 0)
	}
}

// Of less than two bytes not even the number is read, whatever the kind is.
func TestReadOfShortData(t *testing.T) {
	for _, kind := range append(foreign(), order) {
		reads(t, "no byte", api.Frame{Kind: kind}, api.Order{}, form)
		for b := range 256 {
			reads(t, "one byte", api.Frame{Kind: kind, Data: string([]byte{byte(b)})}, api.Order{}, form)
		}
	}
}

// Of a foreign kind nothing is right, but the number is read.
func TestReadOfForeignKinds(t *testing.T) {
	for _, kind := range foreign() {
		for code := range 256 {
			for _, seq := range []int{0, 1, 5, 127, 128, 255} {
				want := api.Order{Seq: seq}
				reads(t, "two bytes", api.Frame{Kind: kind, Data: head(seq, code)}, want, form)
				reads(t, "three bytes", api.Frame{Kind: kind, Data: head(seq, code) + "\x00"}, want, form)
				reads(t, "right elements", api.Frame{Kind: kind, Data: head(seq, code) + bytesOf(good())}, want, form)
				reads(t, "wrong elements", api.Frame{Kind: kind, Data: head(seq, code) + bytesOf(api.Orbit{})}, want, form)
			}
		}
	}
}

// lengths: of data, behind the two bytes ahead.
func lengths() []int {
	all := []int{126, 127, 254, 255, 256, 510, 1000, 65534, 65592}
	for n := range 70 {
		all = append(all, n)
	}
	return all
}

// Each code with data of each length: the bytes behind the first two are those of right elements as far as they go.
func TestReadOfEachCodeAndLength(t *testing.T) {
	for _, more := range lengths() {
		tail := strings.Repeat(bytesOf(good()), more/56+1)[:more]
		for code := range 256 {
			seq := (code*7 + more) % 256
			x := api.Frame{Kind: order, Data: head(seq, code) + tail}
			switch {
			case code < 1 || code > 4:
				reads(t, "no code", x, api.Order{Seq: seq}, noCode)
			case code == orbit && more == 56:
				reads(t, "orbit", x, api.Order{Seq: seq, Code: orbit, Orbit: good()}, 0)
			case code != orbit && more == 0:
				reads(t, "plain", x, api.Order{Seq: seq, Code: code}, 0)
			default:
				reads(t, "another length", x, api.Order{Seq: seq}, form)
			}
		}
	}
}

// Where several things are wrong at once, the first one is told.
func TestReadTellsTheFirst(t *testing.T) {
	right, wrong := bytesOf(good()), bytesOf(changed(good(), 0, 0))
	for _, x := range []struct {
		name string
		kind int
		data string
		seq  int
		e    int
	}{
		{"kind and length", 17, "\x07", 0, form},
		{"kind and code", 15, "\x07\x05", 7, form},
		{"kind, code and length", 0, "\x07\x00\x01", 7, form},
		{"kind and elements", 255, "\x07\x03" + wrong, 7, form},
		{"kind, length and elements", -1, "\x07\x03" + wrong[1:], 7, form},
		{"code and a length of none", order, "\x07\x05\x00", 7, noCode},
		{"code and a length of orbit", order, "\x07\x00" + right, 7, noCode},
		{"code and elements", order, "\x07\xFF" + wrong, 7, noCode},
		{"code of orbit and 128", order, "\x07\x83" + right, 7, noCode},
		{"length and elements", order, "\x07\x03" + wrong + "\x00", 7, form},
		{"length, elements cut short", order, "\x07\x03" + wrong[:55], 7, form},
		{"orbit of no elements", order, "\x07\x03", 7, form},
		{"safe with right elements", order, "\x07\x01" + right, 7, form},
		{"wake with wrong elements", order, "\x07\x02" + wrong, 7, form},
		{"clear with a byte more", order, "\x07\x04\x04", 7, form},
		{"elements alone", order, "\x07\x03" + wrong, 7, unright},
	} {
		reads(t, x.name, api.Frame{Kind: x.kind, Data: x.data}, api.Order{Seq: x.seq}, x.e)
	}
}

// edge: elements at an edge of their words, and whether they are right.
type edge struct {
	name  string
	o     api.Orbit
	right bool
}

// fieldEdges: each number but A just within, at and just past its limits.
func fieldEdges() []edge {
	var all []edge
	ends := func(name string, field int, first, final int64) {
		for _, to := range []int64{first, first + 1, 0, final - 1, final} {
			all = append(all, edge{name, changed(good(), field, to), true})
		}
		for _, to := range []int64{first - 1, final + 1, first - 1<<40, final + 1<<40, most, most + 1, -most, -most - 1, math.MaxInt64, math.MaxInt64 - 1, math.MinInt64, math.MinInt64 + 1} {
			all = append(all, edge{name, changed(good(), field, to), false})
		}
	}
	ends("E", 1, 0, mostE)
	ends("I", 2, 0, half)
	ends("Node", 3, -full, full)
	ends("Peri", 4, -full, full)
	ends("M", 5, -full, full)
	ends("At", 6, 0, last)
	return all
}

// farEdges: A, by E. The products are rounded: an A may be right whose product is somewhat below the nearest, or above the farthest.
func farEdges() []edge {
	var all []edge
	for _, x := range []struct{ e, first, final int64 }{
		{0, lowest, highest},
		{1, 7232738120611, 9211859050592},
		{2, 7232738120617, 9211859050583},
		{89077186090, 7870356884305, 8521488694332},
		{mostE, 8036375689555, 8374417318731},
	} {
		of := func(a int64) api.Orbit { return changed(changed(good(), 1, x.e), 0, a) }
		for _, a := range []int64{x.first, x.first + 1, x.final - 1, x.final} {
			all = append(all, edge{"A", of(a), true})
		}
		for _, a := range []int64{x.first - 1, x.final + 1, 0, 1, -1, -x.first, -x.final, most, most + 1, -most, -most - 1, math.MaxInt64, math.MinInt64, math.MinInt64 + x.first} {
			all = append(all, edge{"A", of(a), false})
		}
	}
	return append(all, edge{"none", api.Orbit{}, false}, edge{"all in the middle", good(), true})
}

func edges() []edge { return append(farEdges(), fieldEdges()...) }

func TestReadAtTheElementsEdges(t *testing.T) {
	for i, e := range edges() {
		x := api.Frame{Kind: order, Data: head(i, orbit) + bytesOf(e.o)}
		if e.right {
			reads(t, e.name, x, api.Order{Seq: i % 256, Code: orbit, Orbit: e.o}, 0)
		} else {
			reads(t, e.name, x, api.Order{Seq: i % 256}, unright)
		}
	}
}

func TestWriteAtTheElementsEdges(t *testing.T) {
	for i, e := range edges() {
		o := api.Order{Seq: i % 256, Code: orbit, Orbit: e.o}
		if e.right {
			writes(t, e.name, o, head(i, orbit)+bytesOf(e.o))
		} else {
			writesNone(t, e.name, o)
		}
	}
}

// Of codes without elements those play no part, right or wrong.
func TestWriteOfPlainCodes(t *testing.T) {
	for _, code := range plainCodes() {
		for seq := range 256 {
			writes(t, "plain", api.Order{Seq: seq, Code: code}, head(seq, code))
			writes(t, "right elements", api.Order{Seq: seq, Code: code, Orbit: good()}, head(seq, code))
		}
		for i, e := range edges() {
			writes(t, "elements of "+e.name, api.Order{Seq: i % 256, Code: code, Orbit: e.o}, head(i, code))
		}
	}
}

func TestWriteOfOrbit(t *testing.T) {
	for seq := range 256 {
		writes(t, "orbit", api.Order{Seq: seq, Code: orbit, Orbit: good()}, head(seq, orbit)+bytesOf(good()))
	}
}

// wrongSeqs: numbers that don't fit in a byte, those among them whose lowest byte is small.
func wrongSeqs() []int {
	return []int{-1, -2, -128, -255, -256, -257, 256, 257, 261, 511, 512, 65536, 1 << 32, 1<<32 + 5, least, least + 5, greatest}
}

func TestWriteOfWrongSeqs(t *testing.T) {
	for _, seq := range wrongSeqs() {
		for code := -1; code <= 6; code++ {
			writesNone(t, "no elements", api.Order{Seq: seq, Code: code})
			writesNone(t, "right elements", api.Order{Seq: seq, Code: code, Orbit: good()})
		}
	}
}

func TestWriteOfNoCodes(t *testing.T) {
	none := []int{0, -1, -2, -3, -4, -252, -253, -254, -255, 256, 257, 258, 259, 260, 1<<16 + 1, 1<<32 + 1, 1<<32 + 3, least, least + 1, least + 3, greatest}
	for code := 5; code < 256; code++ {
		none = append(none, code)
	}
	for _, code := range none {
		for _, seq := range []int{0, 5, 255, -1, 256} {
			writesNone(t, "no elements", api.Order{Seq: seq, Code: code})
			writesNone(t, "right elements", api.Order{Seq: seq, Code: code, Orbit: good()})
		}
	}
}
