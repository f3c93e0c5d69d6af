package telem_test

import (
	"math"
	"strings"
	"testing"

	"alidade/api"
	"alidade/telem"
)

// Written out here, for the tests aren't to share the program's own numbers.
const (
	one  = int64(1) << 40
	most = int64(1) << 62
	last = int64(157766400000)

	tell = 32
	size = 26

	least    = math.MinInt
	greatest = math.MaxInt
)

// kinds: those that aren't KindTell, the ones among them whose lowest byte is.
func kinds() []int {
	return []int{0, 1, 2, 3, 16, 31, 33, 34, 64, 160, 255, 256, 288, 32 + 1<<16, 32 + 1<<32, -1, -31, -32, -33, -224, least, least + 32, greatest, greatest - 31}
}

// told: what may be told, of which each part is another.
func told() api.Tell {
	return api.Tell{Tick: 86400000, Mode: 2, Faults: 9, Ack: 200, Err: 3, Rejects: 1000, Q: [4]int{-1, 20, -300, 16384}, Dipole: [3]int{2000, -1999, 5}}
}

// part: one of what is told: its name, its range, the place and the number of its bytes, and the way to set it.
type part struct {
	name         string
	first, final int64
	place, width int
	set          func(*api.Tell, int64)
}

func parts() []part {
	all := []part{
		{"Tick", 0, last, 0, 6, func(t *api.Tell, n int64) { t.Tick = n }},
		{"Mode", 0, 3, 6, 1, func(t *api.Tell, n int64) { t.Mode = int(n) }},
		{"Faults", 0, 15, 7, 1, func(t *api.Tell, n int64) { t.Faults = int(n) }},
		{"Ack", 0, 255, 8, 1, func(t *api.Tell, n int64) { t.Ack = int(n) }},
		{"Err", 0, 255, 9, 1, func(t *api.Tell, n int64) { t.Err = int(n) }},
		{"Rejects", 0, 65535, 10, 2, func(t *api.Tell, n int64) { t.Rejects = int(n) }},
	}
	for i, name := range []string{"x", "y", "z", "w"} {
		all = append(all, part{"Q's " + name, -32768, 32767, 12 + 2*i, 2, func(t *api.Tell, n int64) { t.Q[i] = int(n) }})
	}
	for i, name := range []string{"x", "y", "z"} {
		all = append(all, part{"Dipole's " + name, -32768, 32767, 20 + 2*i, 2, func(t *api.Tell, n int64) { t.Dipole[i] = int(n) }})
	}
	return all
}

// with answers t with n in the part.
func (p part) with(t api.Tell, n int64) api.Tell {
	p.set(&t, n)
	return t
}

// in answers data with n's bytes in the part's place, worked out by division.
func (p part) in(data string, n int64) string {
	s := []byte(data)
	for i := p.place + p.width - 1; i >= p.place; i-- {
		low := (n%256 + 256) % 256
		s[i], n = byte(low), (n-low)/256
	}
	return string(s)
}

// inside: integers of the part's range, both ends among them.
func (p part) inside() []int64 {
	all := []int64{p.first, p.first + 1, p.final - 1, p.final}
	for _, n := range []int64{-32767, -32513, -32512, -257, -256, -255, -129, -128, -127, -2, -1, 0, 1, 2, 3, 4, 7, 8, 127, 128, 129, 254, 255, 256, 257, 511, 512, 32766, 32767, 32768, 65534, 1 << 16, 1 << 24, 1<<32 - 1, 1 << 32, 1<<32 + 5, 0x0102030405} {
		if p.first <= n && n <= p.final {
			all = append(all, n)
		}
	}
	return all
}

// outside: integers past the part's range, those among them whose lower bytes are those of one inside.
func (p part) outside() []int64 {
	all := []int64{p.first - 1, p.final + 1, p.first - 2, p.final + 2, math.MinInt64, math.MinInt64 + 1, math.MaxInt64, math.MaxInt64 - 1}
	for _, n := range []int64{-1 << 8, 1 << 8, -1 << 16, 1 << 16, -1 << 32, 1 << 32, -1 << 48, 1 << 48, -1 << 62, 1 << 62} {
		for _, m := range []int64{n, n + 1, n - 1, n + 2} {
			if m < p.first || m > p.final {
				all = append(all, m)
			}
		}
	}
	return all
}

// dataOf: the 26 bytes of what may be told, part by part.
func dataOf(t api.Tell) string {
	data := strings.Repeat("\xAA", size)
	numbers := []int64{t.Tick, int64(t.Mode), int64(t.Faults), int64(t.Ack), int64(t.Err), int64(t.Rejects)}
	for _, c := range t.Q {
		numbers = append(numbers, int64(c))
	}
	for _, c := range t.Dipole {
		numbers = append(numbers, int64(c))
	}
	for i, p := range parts() {
		data = p.in(data, numbers[i])
	}
	return data
}

// writes holds Write against the frame of these bytes.
func writes(t *testing.T, name string, x api.Tell, data string) {
	t.Helper()
	want := api.Frame{Kind: tell, Data: data}
	if got, ok := telem.Write(x); got != want || !ok {
		t.Errorf("%s: Write(%+v): %d, %X, %v; want %X", name, x, got.Kind, got.Data, ok, data)
	}
}

func writesNone(t *testing.T, name string, x api.Tell) {
	t.Helper()
	if got, ok := telem.Write(x); got != (api.Frame{}) || ok {
		t.Errorf("%s: Write(%+v): %d, %X, %v", name, x, got.Kind, got.Data, ok)
	}
}

// reads holds Read against what the frame is to tell.
func reads(t *testing.T, name string, x api.Frame, want api.Tell) {
	t.Helper()
	if got, ok := telem.Read(x); got != want || !ok {
		t.Errorf("%s: Read(%d, %X): %+v, %v; want %+v", name, x.Kind, x.Data, got, ok, want)
	}
}

func readsNone(t *testing.T, name string, x api.Frame) {
	t.Helper()
	if got, ok := telem.Read(x); got != (api.Tell{}) || ok {
		t.Errorf("%s: Read(%d, %X): %+v, %v", name, x.Kind, x.Data, got, ok)
	}
}

// Each part's bytes, written out.
func TestEachByteInItsPlace(t *testing.T) {
	x := api.Tell{Tick: 0x0021222324, Mode: 3, Faults: 0x0E, Ack: 0xC4, Err: 0x45, Rejects: 0x9697,
		Q: [4]int{0x0102, -0x0102, 0x7F03, -0x7F03}, Dipole: [3]int{0x1112, -1, -32768}}
	data := "\x00\x00\x21\x22\x23\x24" + "\x03" + "\x0E" + "\xC4" + "\x45" + "\x96\x97" +
		"\x01\x02" + "\xFE\xFE" + "\x7F\x03" + "\x80\xFD" + "\x11\x12" + "\xFF\xFF" + "\x80\x00"
	writes(t, "bytes", x, data)
	reads(t, "bytes", api.Frame{Kind: tell, Data: data}, x)

	x.Tick, x.Mode, x.Faults, x.Ack, x.Err, x.Rejects = last, 1, 2, 0x45, 0xC4, 0x9796
	x.Q = [4]int{-32768, 32767, -1, 1}
	x.Dipole = [3]int{256, 255, -256}
	data = "\x00\x24\xBB\x9C\x38\x00" + "\x01" + "\x02" + "\x45" + "\xC4" + "\x97\x96" +
		"\x80\x00" + "\x7F\xFF" + "\xFF\xFF" + "\x00\x01" + "\x01\x00" + "\x00\xFF" + "\xFF\x00"
	writes(t, "other bytes", x, data)
	reads(t, "other bytes", api.Frame{Kind: tell, Data: data}, x)
}

// Nothing but zeros may be told, too.
func TestZeros(t *testing.T) {
	zeros := strings.Repeat("\x00", size)
	writes(t, "zeros", api.Tell{}, zeros)
	reads(t, "zeros", api.Frame{Kind: tell, Data: zeros}, api.Tell{})
}

// Each part alone, at, within and past its range, beside others that may be told.
func TestWriteOfEachPart(t *testing.T) {
	for _, x := range []api.Tell{{}, told()} {
		for _, p := range parts() {
			for _, n := range p.inside() {
				writes(t, p.name, p.with(x, n), p.in(dataOf(x), n))
			}
			for _, n := range p.outside() {
				writesNone(t, p.name, p.with(x, n))
			}
		}
	}
}

// All of a small part's range, and past it.
func TestWriteOfEveryNumber(t *testing.T) {
	for _, p := range parts()[1:] {
		for n := p.first - 70; n <= p.final+70; n++ {
			if n < p.first || n > p.final {
				writesNone(t, p.name, p.with(told(), n))
			} else if p.width == 1 || n%17 == 0 {
				writes(t, p.name, p.with(told(), n), p.in(dataOf(told()), n))
			}
		}
	}
}

// Two parts that are wrong don't make one that is right.
func TestWriteOfTwoWrongParts(t *testing.T) {
	all := parts()
	for _, p := range all {
		for _, q := range all {
			for _, n := range p.outside() {
				writesNone(t, p.name+", "+q.name, q.with(p.with(told(), n), q.first-1))
				writesNone(t, p.name+", "+q.name, q.with(p.with(told(), n), q.final+1))
			}
		}
	}
}

func TestReadOfEachKind(t *testing.T) {
	data := dataOf(told())
	reads(t, "KindTell", api.Frame{Kind: tell, Data: data}, told())
	for _, kind := range kinds() {
		readsNone(t, "another kind", api.Frame{Kind: kind, Data: data})
		readsNone(t, "another kind, zeros", api.Frame{Kind: kind, Data: strings.Repeat("\x00", size)})
		readsNone(t, "another kind, no byte", api.Frame{Kind: kind})
	}
	for kind := -300; kind <= 600; kind++ {
		if kind != tell {
			readsNone(t, "another kind", api.Frame{Kind: kind, Data: data})
		}
	}
}

func TestReadOfEachLength(t *testing.T) {
	for _, x := range []api.Tell{{}, told()} {
		data := strings.Repeat(dataOf(x), 4)
		for n := range len(data) {
			if n == size {
				reads(t, "26 bytes", api.Frame{Kind: tell, Data: data[:n]}, x)
				continue
			}
			readsNone(t, "another length", api.Frame{Kind: tell, Data: data[:n]})
		}
		for _, n := range []int{256 + size, 65536 + size, 1 << 20} {
			readsNone(t, "a great length", api.Frame{Kind: tell, Data: strings.Repeat(data, n/len(data)+1)[:n]})
		}
	}
}

// Each part alone, as far as its bytes can say it.
func TestReadOfEachPart(t *testing.T) {
	for _, x := range []api.Tell{{}, told()} {
		data := dataOf(x)
		for _, p := range parts() {
			for _, n := range p.inside() {
				reads(t, p.name, api.Frame{Kind: tell, Data: p.in(data, n)}, p.with(x, n))
			}
		}
	}
}

// Bytes can say a tick, a mode and faults that may not be told; all else that they say may be.
func TestReadOfWhatMayNotBeTold(t *testing.T) {
	for _, x := range []api.Tell{{}, told()} {
		data := dataOf(x)
		tick, mode, faults := parts()[0], parts()[1], parts()[2]
		for _, n := range []int64{last + 1, last + 2, last + 256, 1 << 38, 1 << 40, 1<<40 + 5, 1 << 47, 1<<47 + 1, 1<<48 - last, 1<<48 - 1} {
			readsNone(t, "Tick", api.Frame{Kind: tell, Data: tick.in(data, n)})
		}
		for n := int64(0); n < 256; n++ {
			m := api.Frame{Kind: tell, Data: mode.in(data, n)}
			f := api.Frame{Kind: tell, Data: faults.in(data, n)}
			if n > 3 {
				readsNone(t, "Mode", m)
			} else {
				reads(t, "Mode", m, mode.with(x, n))
			}
			if n > 15 {
				readsNone(t, "Faults", f)
			} else {
				reads(t, "Faults", f, faults.with(x, n))
			}
		}
		readsNone(t, "all three", api.Frame{Kind: tell, Data: "\xFF\xFF\xFF\xFF\xFF\xFF\xFF\xFF" + data[8:]})
	}
	readsNone(t, "all", api.Frame{Kind: tell, Data: strings.Repeat("\xFF", size)})
	behind := api.Tell{Ack: 255, Err: 255, Rejects: 65535, Q: [4]int{-1, -1, -1, -1}, Dipole: [3]int{-1, -1, -1}}
	reads(t, "all behind the faults", api.Frame{Kind: tell, Data: strings.Repeat("\x00", 8) + strings.Repeat("\xFF", 18)}, behind)
}
