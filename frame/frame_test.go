package frame_test

import (
	"encoding/hex"
	"math"
	"slices"
	"strings"
	"testing"

	"alidade/api"
	"alidade/frame"
)

// Written out here, for the tests aren't to share the program's own numbers.
const (
	a5   = "\xa5"
	most = 64
)

// bytesOf answers the bytes that are told in base 16, with or without blanks.
func bytesOf(t *testing.T, told string) string {
	t.Helper()
	b, err := hex.DecodeString(strings.ReplaceAll(told, " ", ""))
	if err != nil {
		t.Fatal(err)
	}
	return string(b)
}

// counting: n bytes, from the first one on up, or down.
func counting(first, step, n int) string {
	b := make([]byte, n)
	for i := range b {
		b[i] = byte(first + step*i)
	}
	return string(b)
}

func TestLimits(t *testing.T) {
	if api.MaxData != most {
		t.Error(api.MaxData)
	}
}

// The sums were worked out outside of the program.
func TestSum(t *testing.T) {
	for _, c := range []struct {
		name, s string
		want    uint16
	}{
		{"the example", "123456789", 0x29B1},
		{"no bytes", "", 0xFFFF},
		{"00", "\x00", 0xE1F0},
		{"01", "\x01", 0xF1D1},
		{"0F", "\x0f", 0x101F},
		{"10", "\x10", 0xF3C1},
		{"a letter", "A", 0xB915},
		{"7F", "\x7f", 0x6E88},
		{"80", "\x80", 0x7078},
		{"A5", a5, 0x04BF},
		{"FF", "\xff", 0xFF00},
		{"two of 00", "\x00\x00", 0x1D0F},
		{"two of FF", "\xff\xff", 0},
		{"12 34", "\x12\x34", 0x0EC9},
		{"a word", "alidade", 0xDB7B},
		{"64 of 00", strings.Repeat("\x00", 64), 0xD6DA},
		{"64 of FF", strings.Repeat("\xff", 64), 0xF154},
		{"all bytes, up", counting(0, 1, 256), 0x3FBD},
		{"all bytes, down", counting(255, -1, 256), 0x257A},
		{"256 of A", strings.Repeat("A", 256), 0xEA0B},
		{"64 of x", strings.Repeat("x", 64), 0x4422},
		{"65 of x", strings.Repeat("x", 65), 0xD5DF},
		{"1000 of x", strings.Repeat("x", 1000), 0xC9D8},
		{"65536 of x", strings.Repeat("x", 65536), 0x6360},
		{"2^20 of x", strings.Repeat("x", 1<<20), 0x3764},
		{"a million of 00", strings.Repeat("\x00", 1000000), 0xC9BB},
	} {
		if got := frame.Sum(c.s); got != c.want {
			t.Errorf("%s: %04X, not %04X", c.name, got, c.want)
		}
	}
}

// pair: a frame and its bytes.
type pair struct {
	x api.Frame
	s string
}

// pairs were worked out outside of the program.
func pairs(t *testing.T) []pair {
	rising := counting(0, 1, most)
	return []pair{
		{api.Frame{}, bytesOf(t, "A5 00 00 1D0F")},
		{api.Frame{Kind: 1}, bytesOf(t, "A5 01 00 2E3E")},
		{api.Frame{Kind: 2}, bytesOf(t, "A5 02 00 7B6D")},
		{api.Frame{Kind: 255}, bytesOf(t, "A5 FF 00 1EF0")},
		{api.Frame{Kind: 16, Data: "z"}, bytesOf(t, "A5 10 01 7A 6313")},
		{api.Frame{Kind: 32, Data: "\x00"}, bytesOf(t, "A5 20 01 00 796B")},
		{api.Frame{Kind: 254, Data: "\xff"}, bytesOf(t, "A5 FE 01 FF 190E")},
		{api.Frame{Kind: 165, Data: a5}, bytesOf(t, "A5 A5 01 A5 4C8E")},
		{api.Frame{Kind: 3, Data: a5 + a5}, bytesOf(t, "A5 03 02 A5A5 76B8")},
		{api.Frame{Kind: 7, Data: "yyy"}, bytesOf(t, "A5 07 03 797979 F6E2")},
		// A5 in the sum: its higher byte, its lower one, both.
		{api.Frame{Data: "\x50"}, bytesOf(t, "A5 00 01 50 A558")},
		{api.Frame{Data: "\x08"}, bytesOf(t, "A5 00 01 08 7EA5")},
		{api.Frame{Data: "\x6d\x12"}, bytesOf(t, "A5 00 02 6D12 A5A5")},
		// A frame in a frame's data.
		{api.Frame{Kind: 1, Data: bytesOf(t, "A500001D0F")}, bytesOf(t, "A5 01 05 A500001D0F 875D")},
		{api.Frame{Data: strings.Repeat("\x00", most)}, bytesOf(t, "A5 00 40"+strings.Repeat("00", most)+"0A89")},
		{api.Frame{Kind: 255, Data: strings.Repeat("\xff", most)}, bytesOf(t, "A5 FF 40"+strings.Repeat("FF", most)+"1B4A")},
		{api.Frame{Kind: 165, Data: strings.Repeat(a5, most)}, bytesOf(t, "A5 A5 40"+strings.Repeat("A5", most)+"B512")},
		{api.Frame{Kind: 7, Data: rising}, a5 + "\x07\x40" + rising + "\xd6\x80"},
		{api.Frame{Kind: 7, Data: strings.Repeat("y", 63)}, a5 + "\x07\x3f" + strings.Repeat("y", 63) + "\x3c\xa9"},
	}
}

func TestWrap(t *testing.T) {
	for _, p := range pairs(t) {
		if got, ok := frame.Wrap(p.x); !ok || got != p.s {
			t.Errorf("Wrap(%d, %x): %x, %v; want %x", p.x.Kind, p.x.Data, got, ok, p.s)
		}
	}
}

func TestWrapOfWhatIsNoFrame(t *testing.T) {
	for _, kind := range []int{
		-1, -2, -91, -128, -255, -256, -257, -65536, 256, 257, 256 + 165, 511, 512, 65535, 65536, 65537,
		math.MaxInt32, math.MinInt32, math.MaxInt, math.MaxInt - 255, math.MinInt, math.MinInt + 1,
	} {
		for _, data := range []string{"", "x", strings.Repeat("x", most), strings.Repeat("x", most+1)} {
			if got, ok := frame.Wrap(api.Frame{Kind: kind, Data: data}); ok || got != "" {
				t.Errorf("Wrap(%d, %d bytes): %x, %v", kind, len(data), got, ok)
			}
		}
	}
	for _, length := range []int{65, 66, 127, 128, 255, 256, 257, 256 + 64, 65536, 65537, 1 << 20} {
		for _, kind := range []int{0, 1, 255} {
			if got, ok := frame.Wrap(api.Frame{Kind: kind, Data: strings.Repeat("x", length)}); ok || got != "" {
				t.Errorf("Wrap(%d, %d bytes): %x, %v", kind, length, got, ok)
			}
		}
	}
}

func TestOpen(t *testing.T) {
	for _, p := range pairs(t) {
		if got, ok := frame.Open(p.s); !ok || got != p.x {
			t.Errorf("Open(%x): %x, %v", p.s, got, ok)
		}
	}
}

// refused: that Open finds no frame in it, and answers nothing beside that.
func refused(t *testing.T, name, s string) {
	t.Helper()
	if got, ok := frame.Open(s); ok || got != (api.Frame{}) {
		t.Errorf("%s: Open(%x): %x, %v", name, s, got, ok)
	}
}

func TestOpenOfFramesWithBytesLessOrMore(t *testing.T) {
	for _, p := range pairs(t) {
		for end := range len(p.s) {
			refused(t, "its beginning", p.s[:end])
			refused(t, "its end", p.s[end+1:])
			refused(t, "a byte less inside", p.s[:end]+p.s[end+1:])
		}
		for _, more := range []string{"\x00", "x", a5, "\xff", p.s} {
			refused(t, "more behind it", p.s+more)
			refused(t, "more ahead of it", more+p.s)
		}
	}
}

func TestOpenOfWhatIsNoFrame(t *testing.T) {
	refused(t, "no bytes", "")
	for b := range 256 {
		refused(t, "one byte", string([]byte{byte(b)}))
	}
	for _, c := range []struct{ name, told string }{
		{"A5 and a kind", "A5 01"},
		{"no sum", "A5 01 00"},
		{"half a sum", "A5 01 00 2E"},
		{"another first byte", "A4 01 00 2E3E"},
		{"no first byte", "01 00 2E3E"},
		{"another kind", "A5 02 00 2E3E"},
		{"another length", "A5 01 01 2E3E"},
		{"the sum's higher byte", "A5 01 00 2F3E"},
		{"the sum's lower byte", "A5 01 00 2E3F"},
		{"the sum's lower byte first", "A5 01 00 3E2E"},
		{"the sum with the first byte in it", "A5 01 00 A9C1"},
		{"the right sum of a length too great", "A5 07 03 7979 D1C2"},
		{"the right sum of a length too small", "A5 07 01 7979 BFA2"},
		{"the right sum of a length of 0, with data", "A5 07 00 79 A6B2"},
		{"the right sum of a length of 1, without data", "A5 07 01 94B9"},
	} {
		refused(t, c.name, bytesOf(t, c.told))
	}
	refused(t, "65 bytes, with their sum", a5+"\x07\x41"+strings.Repeat("y", 65)+"\x48\xb2")
	refused(t, "255 bytes, with their sum", a5+"\x07\xff"+strings.Repeat("y", 255)+"\x49\x57")
	for length := most + 1; length <= 255; length++ {
		body := string([]byte{9, byte(length)}) + strings.Repeat("u", length)
		refused(t, "a length above 64", a5+body+sumBytes(body))
	}
}

func TestOpenOfOtherLengths(t *testing.T) {
	for _, p := range pairs(t) {
		for length := range 256 {
			if length != len(p.x.Data) {
				body := p.s[1:2] + string([]byte{byte(length)}) + p.x.Data
				refused(t, "another length, with the old sum", a5+body+p.s[len(p.s)-2:])
				refused(t, "another length, with its sum", a5+body+sumBytes(body))
			}
		}
	}
}

// stream: bytes told in base 16, and what Scan answers of them.
type stream struct {
	name, told string
	found      []api.Frame
	left       string
	over       int
}

func streams(t *testing.T) []stream {
	all := append(plainStreams(), leftStreams()...)
	return append(append(all, spoiltStreams()...), dataStreams(t)...)
}

// Frames, and bytes that are of none.
func plainStreams() []stream {
	one, three := api.Frame{Kind: 1}, api.Frame{Kind: 3, Data: a5 + a5}
	return []stream{
		{"no bytes", "", nil, "", 0},
		{"a byte", "00", nil, "", 1},
		{"a byte next to A5", "A4", nil, "", 1},
		{"the other one", "A6", nil, "", 1},
		{"A5 without its highest bit", "25", nil, "", 1},
		{"no frame", "61 7A 00 FF 01 00 2E 3E", nil, "", 8},
		{"one frame", "A501002E3E", []api.Frame{one}, "", 0},
		{"another one", "A50302A5A576B8", []api.Frame{three}, "", 0},
		{"several", "A501002E3E A50302A5A576B8 A500001D0F A501002E3E", []api.Frame{one, three, {}, one}, "", 0},
		{"bytes ahead", "6162 A501002E3E", []api.Frame{one}, "", 2},
		{"bytes between", "A501002E3E 616263 A50302A5A576B8", []api.Frame{one, three}, "", 3},
		{"bytes behind", "A501002E3E 61626364", []api.Frame{one}, "", 4},
		{"bytes everywhere", "00 A501002E3E 0102 A501002E3E A500001D0F 030405 A50302A5A576B8 06070809", []api.Frame{one, one, {}, three}, "", 10},
		{"A5 in each byte of a sum", "A500026D12A5A5 A5000150A558 A50001087EA5 A501002E3E", []api.Frame{{Data: "\x6d\x12"}, {Data: "\x50"}, {Data: "\x08"}, one}, "", 0},
	}
}

// What more bytes may yet make a frame of.
func leftStreams() []stream {
	one := api.Frame{Kind: 1}
	return []stream{
		{"A5 alone", "A5", nil, "A5", 0},
		{"one byte behind it", "A501", nil, "A501", 0},
		{"one byte behind it, A5 too", "A5A5", nil, "A5A5", 0},
		{"a byte ahead", "00 A5", nil, "A5", 1},
		{"bytes ahead", "00FF A541", nil, "A541", 2},
		{"behind a frame", "A501002E3E A5", []api.Frame{one}, "A5", 0},
		{"behind a frame, a byte more", "A501002E3E A501", []api.Frame{one}, "A501", 0},
		{"behind a frame and other bytes", "A501002E3E 6162 A501", []api.Frame{one}, "A501", 2},
		{"two bytes behind it, without data", "A50100", nil, "A50100", 0},
		{"two bytes behind it, of length 64", "A50140", nil, "A50140", 0},
		{"half a sum", "A501002E", nil, "A501002E", 0},
		{"half a sum, another one", "A501002F", nil, "A501002F", 0},
		{"data without a sum", "A5 03 02 A5A5", nil, "A50302A5A5", 0},
		{"data with half a sum", "A5 03 02 A5A5 76", nil, "A50302A5A576", 0},
		{"a frame in unfinished data", "A5 01 05 A500001D0F 87", nil, "A50105A500001D0F87", 0},
		{"frames behind a length that isn't there yet", "A5 01 40 A501002E3E A501002E3E", nil, "A50140A501002E3EA501002E3E", 0},
		{"the same, behind other bytes", "FF A501002E3E 00 A5 01 0B A501002E3E A501002E", []api.Frame{one}, "A5010BA501002E3EA501002E", 2},
	}
}

// What no bytes to come can make a frame of.
func spoiltStreams() []stream {
	one := api.Frame{Kind: 1}
	return []stream{
		{"a length of 65", "A50141", nil, "", 3},
		{"a length of 255", "A501FF", nil, "", 3},
		{"a length of A5", "A501A5", nil, "A5", 2},
		{"a length of A5, then a length", "A501A50003", nil, "A50003", 2},
		{"a length of 65, then a frame", "A50141 A501002E3E", []api.Frame{one}, "", 3},
		{"a length of 65, ahead of what is left", "A50141 A501", nil, "A501", 3},
		{"a kind of A5, a length of 65", "A5A541", nil, "A541", 1},
		{"A5 three times", "A5A5A5", nil, "A5A5", 1},
		{"A5 six times", "A5A5A5A5A5A5", nil, "A5A5", 4},
		{"A5 four times, then a length", "A5A5A5A500", nil, "A5A500", 2},
		{"A5, then a frame", "A5 A501002E3E", []api.Frame{one}, "", 1},
		{"A5 twice, then a frame", "A5A5 A501002E3E", []api.Frame{one}, "", 2},
		{"A5 and a byte, then a frame", "A500 A501002E3E", []api.Frame{one}, "", 2},
		{"another first byte", "A401002E3E", nil, "", 5},
		{"another kind", "A502002E3E", nil, "", 5},
		{"another length: it is left", "A501012E3E", nil, "A501012E3E", 0},
		{"another length, then a frame", "A501012E3E A501002E3E", []api.Frame{one}, "", 5},
		{"the sum's higher byte", "A501002F3E", nil, "", 5},
		{"the sum's lower byte", "A501002E3F", nil, "", 5},
		{"the sum's lower byte first", "A501003E2E", nil, "", 5},
		{"a spoilt one between two", "A501002E3E A501002E3F A501002E3E", []api.Frame{one, one}, "", 5},
		{"A5 in a wrong sum", "A50100A501", nil, "A501", 3},
		{"a frame in a wrong sum", "A50100 A501002E3E", []api.Frame{one}, "", 3},
		{"a frame in the data, the sum's higher byte", "A5 01 05 A500001D0F 865D", []api.Frame{{}}, "", 5},
		{"a frame in the data, the sum's lower byte", "A5 01 05 A500001D0F 875C", []api.Frame{{}}, "", 5},
		{"two frames in the data", "A5 01 0B A500001D0F 61 A501002E3E 0000 A501", []api.Frame{{}, one}, "A501", 6},
		{"frames in a frame in the data", "A5 02 0B A5 01 05 A500001D0F 875D 61 0000", []api.Frame{{Kind: 1, Data: "\xa5\x00\x00\x1d\x0f"}}, "", 6},
		{"a frame that goes on behind", "A5 09 02 A500 001D 0F", []api.Frame{{}}, "", 3},
		{"one that begins in the sum", "A5 09 01 61 00A5 00001D0F", []api.Frame{{}}, "", 5},
	}
}

// Data that is long, or looks like frames.
func dataStreams(t *testing.T) []stream {
	y63, y64, y65 := strings.Repeat("79", 63), strings.Repeat("79", 64), strings.Repeat("79", 65)
	long := api.Frame{Kind: 7, Data: bytesOf(t, y64)}
	return []stream{
		{"a frame in a frame", "A5 01 05 A500001D0F 875D", []api.Frame{{Kind: 1, Data: "\xa5\x00\x00\x1d\x0f"}}, "", 0},
		{"A5 alone in 64 bytes", "A5A540" + strings.Repeat("A5", 64) + "B512", []api.Frame{{Kind: 165, Data: strings.Repeat(a5, 64)}}, "", 0},
		{"63 bytes", "A5073F" + y63 + "3CA9", []api.Frame{{Kind: 7, Data: bytesOf(t, y63)}}, "", 0},
		{"64 bytes", "A50740" + y64 + "FCC5", []api.Frame{long}, "", 0},
		{"64 bytes, twice", "A50740" + y64 + "FCC5 79 A50740" + y64 + "FCC5", []api.Frame{long, long}, "", 1},
		{"64 bytes, without a byte", "A50740" + y64 + "FC", nil, "A50740" + y64 + "FC", 0},
		{"64 bytes, without a sum", "A50740" + y64, nil, "A50740" + y64, 0},
		{"64 bytes, another sum", "A50740" + y64 + "FCC4", nil, "", 69},
		{"65 bytes, with their sum", "A50741" + y65 + "48B2", nil, "", 70},
		{"65 bytes, without a byte", "A50741" + y65 + "48", nil, "", 69},
	}
}

func TestScan(t *testing.T) {
	for _, s := range streams(t) {
		found, left, over := frame.Scan(bytesOf(t, s.told))
		if !slices.Equal(found, s.found) || left != bytesOf(t, s.left) || over != s.over {
			t.Errorf("%s: %s: %X, %X left, %d passed over; want %X, %s, %d", s.name, s.told, found, left, over, s.found, s.left, s.over)
		}
	}
}

func TestScanOfLongStreams(t *testing.T) {
	const times = 100000
	found, left, over := frame.Scan(strings.Repeat(bytesOf(t, "61 A501002E3E"), times) + a5)
	if len(found) != times || left != a5 || over != times {
		t.Error(len(found), left, over)
	}
	for _, x := range found {
		if x != (api.Frame{Kind: 1}) {
			t.Fatal(x)
		}
	}
	if found, left, over := frame.Scan(strings.Repeat("\x00", 1<<20)); len(found) != 0 || left != "" || over != 1<<20 {
		t.Error(len(found), left, over)
	}
	if found, left, over := frame.Scan(strings.Repeat(a5, 1<<20)); len(found) != 0 || left != a5+a5 || over != 1<<20-2 {
		t.Error(len(found), left, over)
	}
	// Each of them seems to be a frame of 64 bytes; behind the last 22 of them some are lacking.
	seeming := bytesOf(t, "A50040")
	if found, left, over := frame.Scan(strings.Repeat(seeming, 50000)); len(found) != 0 || left != strings.Repeat(seeming, 22) || over != 3*(50000-22) {
		t.Error(len(found), len(left), over)
	}
}
