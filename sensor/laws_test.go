package sensor_test

import (
	"math"
	"strings"
	"testing"

	"alidade/api"
	"alidade/frame"
	"alidade/sensor"
)

// again holds what was written against what is read of it: where it may be read it says the tick, and of gyro the counts. It answers whether it may be read.
func again(t *testing.T, kind int, tick int64, counts [6]int) bool {
	t.Helper()
	x, ok := sensor.Write(kind, tick, counts)
	if !ok || x.Kind != kind {
		t.Fatalf("Write(%d, %d, %v): %d, %X, %v", kind, tick, counts, x.Kind, x.Data, ok)
	}
	r, ok := sensor.Read(x)
	if !ok {
		if r != (api.Reading{}) {
			t.Fatalf("%d, %d, %v: refused, but %v", kind, tick, counts, r)
		}
		return false
	}
	if r.Kind != kind || r.Tick != tick {
		t.Fatalf("%d, %d, %v: %v", kind, tick, counts, r)
	}
	for i := range 3 {
		if kind == gyro && r.V[i] != int64(counts[i])*33554432 {
			t.Fatalf("gyro, %d, %v: %v", tick, counts, r)
		}
	}
	return true
}

func TestWrittenAndReadGyro(t *testing.T) {
	for count := -32768; count <= 32767; count++ {
		for place := range 3 {
			counts := [6]int{-30000, 12, 30000, math.MinInt, -1, math.MaxInt}
			counts[place] = count
			if read := again(t, gyro, int64(count+32768)*2407331, counts); read != (-30000 <= count && count <= 30000) {
				t.Fatalf("%v: %v", counts, read)
			}
		}
	}
}

func TestWrittenAndReadSun(t *testing.T) {
	for count := range 65536 {
		for place := range 6 {
			var counts [6]int
			counts[place] = count
			if read := again(t, sun, last-int64(count)*2407331, counts); read != (count >= 2000) {
				t.Fatalf("%v: %v", counts, read)
			}
		}
	}
}

func TestWrittenAndReadMag(t *testing.T) {
	for count := -32768; count <= 32767; count++ {
		for place := range 3 {
			var counts [6]int
			counts[place] = count
			size := max(count, -count)
			if read := again(t, mag, int64(count+32768)*2407331, counts); read != (100 <= size && size <= 12000) {
				t.Fatalf("%v: %v", counts, read)
			}
		}
	}
}

func TestWrittenAndReadAllOver(t *testing.T) {
	d := dice(34)
	read := map[int]int{}
	for _, wide := range []int{3, 2100, 24000, 60000, 65536} {
		for range 20000 {
			for _, kind := range kinds() {
				var counts [6]int
				copy(counts[:], thrown(&d, kind, wide))
				if again(t, kind, int64(d.below(1<<31))*73, counts) {
					read[kind]++
				}
			}
		}
	}
	for _, kind := range kinds() {
		if read[kind] < 20000 {
			t.Errorf("of kind %d only %d were read", kind, read[kind])
		}
	}
}

func TestWrittenAtEachTick(t *testing.T) {
	for tick := int64(0); tick <= last; tick += 1572869 {
		for _, kind := range kinds() {
			var counts [6]int
			copy(counts[:], plain(kind))
			if !again(t, kind, tick, counts) {
				t.Fatalf("%d at %d", kind, tick)
			}
		}
	}
}

// What is written is a frame of layer 11, and comes through its bytes as it was.
func TestWrittenGoesThroughFrames(t *testing.T) {
	for _, kind := range kinds() {
		var counts [6]int
		copy(counts[:], plain(kind))
		x, _ := sensor.Write(kind, last, counts)
		s, ok := frame.Wrap(x)
		y, opened := frame.Open(s)
		if !ok || !opened || y != x {
			t.Errorf("%d: %X, %v, %v", kind, s, ok, opened)
		}
		reads(t, y, api.Reading{Kind: kind, Tick: last, V: said(kind)})
	}
}

// Bytes of which most are no reading: Read ends, and beside a false there is nothing.
func TestReadOfAnyBytes(t *testing.T) {
	for _, kind := range append(foreign(), kinds()...) {
		for length := range 70 {
			for b := range 256 {
				r, ok := sensor.Read(api.Frame{Kind: kind, Data: strings.Repeat(string([]byte{byte(b)}), length)})
				if !ok && r != (api.Reading{}) || ok && (r.Kind != kind || r.Tick < 0 || r.Tick > last) {
					t.Fatalf("%d, %d bytes of %02X: %v, %v", kind, length, b, r, ok)
				}
			}
		}
	}
}

// What is answered hangs on the arguments alone: the same calls in another order answer the same.
func TestOneAnswer(t *testing.T) {
	first := map[int]api.Reading{}
	for round := range 3 {
		for i := range kinds() {
			kind := kinds()[(i+round)%3]
			readsNone(t, raw(kind, last+1, plain(kind)...))
			r, ok := sensor.Read(raw(kind, 4, plain(kind)...))
			if round == 0 {
				first[kind] = r
			}
			if !ok || r != first[kind] {
				t.Errorf("%d in round %d: %v, %v", kind, round, r, ok)
			}
		}
	}
}
