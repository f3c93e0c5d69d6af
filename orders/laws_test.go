package orders_test

import (
	"strings"
	"testing"

	"alidade/api"
	"alidade/frame"
	"alidade/orders"
)

// again holds what is read of a written order against it; of other codes than orbit it has no elements. It answers whether it was written.
func again(t *testing.T, o api.Order) bool {
	t.Helper()
	x, ok := orders.Write(o)
	if !ok {
		return false
	}
	if o.Code != orbit {
		o.Orbit = api.Orbit{}
	}
	if got, wrong := orders.Read(x); got != o || wrong != 0 {
		t.Fatalf("%+v, written as %X, is read as %+v, %d", o, x.Data, got, wrong)
	}
	return true
}

// back holds what is written of a read order against its frame, and answers whether it was read.
func back(t *testing.T, x api.Frame) bool {
	t.Helper()
	o, wrong := orders.Read(x)
	if wrong != 0 {
		return false
	}
	if got, ok := orders.Write(o); got != x || !ok {
		t.Fatalf("%X, read as %+v, is written as %d, %X, %v", x.Data, o, got.Kind, got.Data, ok)
	}
	return true
}

// Every number with every code, and with the elements of all edges.
func TestWhatIsWrittenIsReadAgain(t *testing.T) {
	for seq := range 256 {
		for code := 1; code <= 4; code++ {
			if !again(t, api.Order{Seq: seq, Code: code, Orbit: good()}) {
				t.Errorf("%d, %d: not written", seq, code)
			}
		}
	}
	for i, e := range edges() {
		for code := 1; code <= 4; code++ {
			if written := again(t, api.Order{Seq: i % 256, Code: code, Orbit: e.o}); written != (e.right || code != orbit) {
				t.Errorf("%s: %d, %+v: %v", e.name, code, e.o, written)
			}
		}
	}
}

func TestThrownOrdersAreReadAgain(t *testing.T) {
	thrown := dice(163)
	written := map[int]int{}
	for range 200000 {
		if o := thrown.order(); again(t, o) {
			written[o.Code]++
		}
	}
	for code := 1; code <= 4; code++ {
		if written[code] < 10000 {
			t.Errorf("of code %d only %d were written", code, written[code])
		}
	}
}

func TestWhatIsReadIsWrittenAsThatFrame(t *testing.T) {
	for first := range 256 {
		for second := range 256 {
			if read := back(t, api.Frame{Kind: order, Data: head(first, second)}); read != (second == 1 || second == 2 || second == 4) {
				t.Errorf("%d, %d: %v", first, second, read)
			}
		}
	}
	thrown := dice(164)
	read := 0
	for range 200000 {
		if back(t, thrown.frame()) {
			read++
		}
	}
	if read < 20000 {
		t.Errorf("only %d were read", read)
	}
}

// One bit at a time: each bit of the data tells, so no two frames are the same order.
func TestEachBitTells(t *testing.T) {
	x, _ := orders.Write(api.Order{Seq: 9, Code: orbit, Orbit: good()})
	o, _ := orders.Read(x)
	read := 0
	for bit := range 8 * len(x.Data) {
		s := []byte(x.Data)
		s[bit/8] ^= 1 << (bit % 8)
		y := api.Frame{Kind: order, Data: string(s)}
		compare(t, y)
		if got, wrong := orders.Read(y); wrong == 0 {
			read++
			if got == o {
				t.Errorf("bit %d: the same order", bit)
			}
			back(t, y)
		}
	}
	if read < 100 {
		t.Errorf("%d were read", read)
	}
}

// What is written is a frame of layer 11, and comes through its bytes as it was.
func TestWrittenGoesThroughFrames(t *testing.T) {
	for code := 1; code <= 4; code++ {
		x, _ := orders.Write(api.Order{Seq: 200, Code: code, Orbit: good()})
		s, ok := frame.Wrap(x)
		y, opened := frame.Open(s)
		if !ok || !opened || y != x {
			t.Errorf("%d: %X, %v, %v", code, s, ok, opened)
		}
	}
}

// Bytes of which most are no order: Read ends, and beside what is wrong there is the number alone.
func TestReadOfAnyBytes(t *testing.T) {
	for _, kind := range append(foreign(), order) {
		for length := range 70 {
			for b := range 256 {
				compare(t, api.Frame{Kind: kind, Data: strings.Repeat(string([]byte{byte(b)}), length)})
			}
		}
	}
}

// What is answered hangs on the arguments alone: whatever was asked ahead of it, it is the same.
func TestOneAnswer(t *testing.T) {
	type answer struct {
		o     api.Order
		wrong int
		x     api.Frame
		ok    bool
	}
	asked := func() (all []answer) {
		thrown := dice(165)
		for range 5000 {
			var a answer
			a.o, a.wrong = orders.Read(thrown.frame())
			a.x, a.ok = orders.Write(thrown.order())
			all = append(all, a)
		}
		return all
	}
	first := asked()
	orders.Write(api.Order{Seq: 1, Code: orbit, Orbit: good()})
	orders.Read(api.Frame{Kind: order, Data: "\xFF\x03"})
	for i, a := range asked() {
		if a != first[i] {
			t.Fatalf("%d: %+v, then %+v", i, first[i], a)
		}
	}
}
