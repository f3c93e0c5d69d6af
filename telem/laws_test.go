package telem_test

import (
	"testing"

	"alidade/api"
	"alidade/frame"
	"alidade/telem"
)

// again holds what is read of what is written against it, and answers whether it was written.
func again(t *testing.T, x api.Tell) bool {
	t.Helper()
	y, ok := telem.Write(x)
	if !ok {
		return false
	}
	if got, read := telem.Read(y); got != x || !read {
		t.Fatalf("%+v, written as %X, is read as %+v, %v", x, y.Data, got, read)
	}
	return true
}

// back holds what is written of what is read against its frame, and answers whether it was read.
func back(t *testing.T, x api.Frame) bool {
	t.Helper()
	y, ok := telem.Read(x)
	if !ok {
		return false
	}
	if got, written := telem.Write(y); got != x || !written {
		t.Fatalf("%X, read as %+v, is written as %d, %X, %v", x.Data, y, got.Kind, got.Data, written)
	}
	return true
}

func TestWhatIsWrittenIsReadAgain(t *testing.T) {
	for _, p := range parts() {
		for _, n := range p.inside() {
			if !again(t, p.with(told(), n)) || !again(t, p.with(api.Tell{}, n)) {
				t.Errorf("%s: %d isn't written", p.name, n)
			}
		}
		for _, n := range p.outside() {
			if again(t, p.with(told(), n)) {
				t.Errorf("%s: %d is written", p.name, n)
			}
		}
	}
	thrown := dice(175)
	times := map[bool]int{}
	for range 100000 {
		times[again(t, thrown.told())]++
	}
	often(t, times, 10000)
}

func TestWhatIsReadIsWrittenAsThatFrame(t *testing.T) {
	thrown := dice(176)
	times := map[bool]int{}
	for range 100000 {
		times[back(t, thrown.frame())]++
	}
	often(t, times, 10000)
}

// Each byte as each other one: it tells something else, or nothing.
func TestEachByteTells(t *testing.T) {
	data := dataOf(told())
	for i := range size {
		read := 0
		for b := range 256 {
			x := api.Frame{Kind: tell, Data: data[:i] + string([]byte{byte(b)}) + data[i+1:]}
			compareRead(t, x)
			if !back(t, x) {
				continue
			}
			read++
			if got, _ := telem.Read(x); (got == told()) != (x.Data == data) {
				t.Errorf("byte %d as %d: %+v", i, b, got)
			}
		}
		if want := [size]int{1, 37, 256, 256, 256, 256, 4, 16}; i < 8 && read != want[i] || i >= 8 && read != 256 {
			t.Errorf("byte %d: %d were read", i, read)
		}
	}
}

// What is written is a frame of layer 11, and comes through its bytes as it was: 31 bytes.
func TestWrittenGoesThroughFrames(t *testing.T) {
	for _, x := range []api.Tell{{}, told()} {
		y, _ := telem.Write(x)
		s, ok := frame.Wrap(y)
		z, opened := frame.Open(s)
		if !ok || !opened || z != y || len(s) != 31 {
			t.Errorf("%X, %v, %v", s, ok, opened)
		}
	}
}

// What is answered hangs on the arguments alone: whatever was asked ahead of it, it is the same.
func TestOneAnswer(t *testing.T) {
	type answer struct {
		x       api.Frame
		y       api.Tell
		written bool
		read    bool
		turn    [4]int
		dipole  [3]int
	}
	asked := func() (all []answer) {
		thrown := dice(177)
		for range 5000 {
			var a answer
			a.x, a.written = telem.Write(thrown.told())
			a.y, a.read = telem.Read(thrown.frame())
			a.turn, a.dipole = telem.Counts(thrown.attitude(), thrown.dipole())
			all = append(all, a)
		}
		return all
	}
	first := asked()
	telem.Write(told())
	telem.Read(api.Frame{Kind: tell, Data: dataOf(told())})
	telem.Counts(api.Quat{most + 1}, api.Vec{one})
	for i, a := range asked() {
		if a != first[i] {
			t.Fatalf("%d: %+v, then %+v", i, first[i], a)
		}
	}
}
