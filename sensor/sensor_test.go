package sensor_test

import (
	"encoding/hex"
	"math"
	"strings"
	"testing"

	"alidade/api"
	"alidade/sensor"
)

// Written out here, for the tests aren't to share the program's own numbers.
const (
	one  = int64(1) << 40
	last = int64(157766400000)
	gyro = 1
	sun  = 2
	mag  = 3
)

// bytesOf answers the bytes that are told in base 16, with or without blanks.
func bytesOf(t *testing.T, told string) string {
	t.Helper()
	b, err := hex.DecodeString(strings.ReplaceAll(told, " ", ""))
	if err != nil {
		t.Fatal(err)
	}
	return string(b)
}

// raw: a frame with a tick's lowest six bytes, and with each count's lowest two, whatever they are.
func raw(kind int, tick int64, counts ...int) api.Frame {
	data := []byte{byte(tick >> 40), byte(tick >> 32), byte(tick >> 24), byte(tick >> 16), byte(tick >> 8), byte(tick)}
	for _, c := range counts {
		data = append(data, byte(c>>8), byte(c))
	}
	return api.Frame{Kind: kind, Data: string(data)}
}

// reads: that this is the reading.
func reads(t *testing.T, x api.Frame, want api.Reading) {
	t.Helper()
	if got, ok := sensor.Read(x); !ok || got != want {
		t.Errorf("Read(%d, %X): %v, %v; want %v", x.Kind, x.Data, got, ok, want)
	}
}

// readsNone: that it is no reading, and that nothing is told beside that.
func readsNone(t *testing.T, x api.Frame) {
	t.Helper()
	if got, ok := sensor.Read(x); ok || got != (api.Reading{}) {
		t.Errorf("Read(%d, %X): %v, %v", x.Kind, x.Data, got, ok)
	}
}

func writes(t *testing.T, kind int, tick int64, counts [6]int, want api.Frame) {
	t.Helper()
	if got, ok := sensor.Write(kind, tick, counts); !ok || got != want {
		t.Errorf("Write(%d, %d, %v): %d, %X, %v; want %X", kind, tick, counts, got.Kind, got.Data, ok, want.Data)
	}
}

func writesNone(t *testing.T, kind int, tick int64, counts [6]int) {
	t.Helper()
	if got, ok := sensor.Write(kind, tick, counts); ok || got != (api.Frame{}) {
		t.Errorf("Write(%d, %d, %v): %d, %X, %v", kind, tick, counts, got.Kind, got.Data, ok)
	}
}

// plain: counts that each kind may say, and those of them that its frame has.
func plain(kind int) []int {
	switch kind {
	case gyro:
		return []int{32, 0, -32}
	case mag:
		return []int{2500, -100, 0}
	}
	return []int{0, 60000, 0, 0, 0, 0}
}

// said: what the plain counts say.
func said(kind int) api.Vec {
	switch kind {
	case gyro:
		return api.Vec{1 << 30, 0, -1 << 30}
	case mag:
		return api.Vec{25 * one, -one, 0}
	}
	return api.Vec{-one, 0, 0}
}

func kinds() []int { return []int{gyro, sun, mag} }

// foreign: kinds of no sensor, some of which are one in their lowest bits.
func foreign() []int {
	return []int{
		0, 4, 5, 6, 7, 8, 16, 32, 127, 128, 129, 254, 255, 256, 257, 258, 259, 65537, 1<<32 + 1, 1<<32 + 2, 1<<32 + 3,
		-1, -2, -3, -4, -253, -254, -255, -256, -65535, -1<<32 + 1,
		math.MaxInt32, math.MinInt32, math.MinInt32 + 1, math.MaxInt, math.MinInt, math.MinInt + 1, math.MinInt + 2, math.MinInt + 3,
	}
}

func TestNumbersOfApi(t *testing.T) {
	if api.One != one || api.MaxTick != last || api.KindGyro != gyro || api.KindSun != sun || api.KindMag != mag {
		t.Error(api.One, api.MaxTick, api.KindGyro, api.KindSun, api.KindMag)
	}
}

// The bytes were worked out outside of the program.
func TestReadOfBytes(t *testing.T) {
	for _, c := range []struct {
		kind int
		told string
		want api.Reading
	}{
		{gyro, "0000000003E8 0020 0000 FFE0", api.Reading{Kind: gyro, Tick: 1000, V: api.Vec{1 << 30, 0, -1 << 30}}},
		{gyro, "000102030405 7530 8AD0 0100", api.Reading{Kind: gyro, Tick: 4328719365, V: api.Vec{1006632960000, -1006632960000, 8589934592}}},
		{mag, "0000000003E8 09C4 FF9C 0000", api.Reading{Kind: mag, Tick: 1000, V: api.Vec{25 * one, -one, 0}}},
		{mag, "001020304050 04D2 FDC9 0059", api.Reading{Kind: mag, Tick: 69259509840, V: api.Vec{13567973486756, -6234230929490, 978565348721}}},
		{sun, "0000000003E8 0000 EA60 0000 0000 0000 0000", api.Reading{Kind: sun, Tick: 1000, V: api.Vec{-one}}},
		{sun, "0024BB9C3800 3039 02A6 0009 0D80 C350 C34F", api.Reading{Kind: sun, Tick: last, V: api.Vec{1054452792161, -311536708201, 90379086}}},
	} {
		reads(t, api.Frame{Kind: c.kind, Data: bytesOf(t, c.told)}, c.want)
	}
}

func TestReadOfForeignKinds(t *testing.T) {
	for _, kind := range foreign() {
		for _, of := range kinds() {
			readsNone(t, raw(kind, 1000, plain(of)...))
		}
		readsNone(t, api.Frame{Kind: kind})
		readsNone(t, api.Frame{Kind: kind, Data: "123456"})
	}
}

// Data of each other length, with bytes that would be read in the right one.
func TestReadOfOtherLengths(t *testing.T) {
	for _, kind := range kinds() {
		right := raw(kind, 1000, plain(kind)...)
		reads(t, right, api.Reading{Kind: kind, Tick: 1000, V: said(kind)})
		long := right.Data + strings.Repeat("\x00", 300)
		for length := range len(long) {
			if length != len(right.Data) {
				readsNone(t, api.Frame{Kind: kind, Data: long[:length]})
			}
		}
		readsNone(t, api.Frame{Kind: kind})
		readsNone(t, api.Frame{Kind: kind, Data: "\x00" + right.Data})
		readsNone(t, api.Frame{Kind: kind, Data: right.Data + right.Data})
		readsNone(t, api.Frame{Kind: kind, Data: strings.Repeat("\x10", 1<<16)})
		readsNone(t, api.Frame{Kind: kind, Data: strings.Repeat("\x10", 256+len(right.Data))})
	}
	// Three counts of the sun's, six of a gyro's or a magnetometer's.
	readsNone(t, raw(sun, 1000, 3000, 0, 0))
	readsNone(t, raw(gyro, 1000, 32, 0, -32, 0, 0, 0))
	readsNone(t, raw(mag, 1000, 2500, -100, 0, 0, 0, 0))
}

func TestReadOfTicks(t *testing.T) {
	for _, kind := range kinds() {
		for _, tick := range []int64{0, 1, 2, 255, 256, 65535, 65536, 1<<24 - 1, 1 << 24, 1<<31 - 1, 1 << 31, 1<<32 - 1, 1 << 32, 1<<37 - 1, 1 << 37, 0x0102030405, last - 1, last} {
			reads(t, raw(kind, tick, plain(kind)...), api.Reading{Kind: kind, Tick: tick, V: said(kind)})
		}
		// Six bytes of FF would be -1 by two's complement.
		for _, tick := range []int64{last + 1, last + 2, 1 << 38, 1<<40 - 1, 1 << 40, 1<<40 + 1000, 1<<47 - 1, 1 << 47, 1<<47 + 1, 1<<47 + 1000, 1<<48 - 2, 1<<48 - 1, -1, -1000, -last} {
			readsNone(t, raw(kind, tick, plain(kind)...))
		}
	}
}

func TestReadOfGyro(t *testing.T) {
	for _, c := range []struct {
		count int
		want  int64
		ok    bool
	}{
		{0, 0, true},
		{1, 33554432, true},
		{-1, -33554432, true},
		{2, 67108864, true},
		{32, one / 1024, true},
		{-32, -one / 1024, true},
		{255, 8556380160, true},
		{256, 8589934592, true},
		{-256, -8589934592, true},
		{-257, -8623489024, true},
		{16384, one / 2, true},
		{29999, 1006599405568, true},
		{30000, 1006632960000, true},
		{30001, 0, false},
		{-29999, -1006599405568, true},
		{-30000, -1006632960000, true},
		{-30001, 0, false},
		{32767, 0, false},
		{-32767, 0, false},
		{-32768, 0, false},
	} {
		for place := range 3 {
			for _, others := range []int{0, 1, -1, 30000, -30000} {
				counts := []int{others, others, others}
				counts[place] = c.count
				x := raw(gyro, 5, counts...)
				if !c.ok {
					readsNone(t, x)
					continue
				}
				r := int64(others) << 25
				want := api.Reading{Kind: gyro, Tick: 5, V: api.Vec{r, r, r}}
				want.V[place] = c.want
				reads(t, x, want)
			}
		}
	}
	// What is too much in one place isn't made good by another one.
	readsNone(t, raw(gyro, 5, 30001, -30001, 0))
	readsNone(t, raw(gyro, 5, -32768, -32768, -32768))
}

// field: a magnetometer's counts, and what they say; of those that are refused nothing.
type field struct {
	name   string
	counts [3]int
	want   api.Vec
	ok     bool
}

// fields were worked out outside of the program. Some are 1 long in counts, and a bit too short when each part is rounded.
func fields() []field {
	return []field{
		{"no field", [3]int{}, api.Vec{}, false},
		{"one count", [3]int{0, 0, 1}, api.Vec{}, false},
		{"one count below 0", [3]int{0, -1, 0}, api.Vec{}, false},
		{"99 counts", [3]int{99, 0, 0}, api.Vec{}, false},
		{"-99 counts", [3]int{0, 0, -99}, api.Vec{}, false},
		{"0.99985", [3]int{99, 14, 0}, api.Vec{}, false},
		{"0.9999", [3]int{99, 14, 1}, api.Vec{}, false},
		{"0.9999 again", [3]int{57, 82, 5}, api.Vec{}, false},
		{"three parts, just below", [3]int{58, 58, 57}, api.Vec{}, false},
		{"One, in the first", [3]int{100, 0, 0}, api.Vec{one, 0, 0}, true},
		{"One, in the second", [3]int{0, -100, 0}, api.Vec{0, -one, 0}, true},
		{"One, in the third", [3]int{0, 0, 100}, api.Vec{0, 0, one}, true},
		{"One, cut", [3]int{60, 80, 0}, api.Vec{659706976666, 879609302221, 0}, true},
		{"One, cut, of three", [3]int{48, -60, 64}, api.Vec{527765581332, -659706976666, 703687441777}, true},
		{"one less than One", [3]int{28, 96, 0}, api.Vec{}, false},
		{"one less than One, the other way round", [3]int{96, 28, 0}, api.Vec{}, false},
		{"one less than One, below 0", [3]int{0, 28, -96}, api.Vec{}, false},
		{"one less than One, of three", [3]int{36, 48, 80}, api.Vec{}, false},
		{"1.00005", [3]int{99, 14, 2}, api.Vec{1088516511498, 153931627889, 21990232556}, true},
		{"101 counts", [3]int{101, 0, 0}, api.Vec{1110506744054, 0, 0}, true},
		{"three parts, just above", [3]int{58, 58, 58}, api.Vec{637716744110, 637716744110, 637716744110}, true},
		{"plain", [3]int{2500, -100, 0}, api.Vec{25 * one, -one, 0}, true},
		{"plain, of three", [3]int{1234, -567, 89}, api.Vec{13567973486756, -6234230929490, 978565348721}, true},
		{"below 0", [3]int{-2876, 1, -4301}, api.Vec{-31621954414838, 10995116278, -47289995110646}, true},
		{"small ones beside a great one", [3]int{1, -1, 3333}, api.Vec{10995116278, -10995116278, 36646722553774}, true},
		{"11999 below 0", [3]int{-11999, 0, 0}, api.Vec{-131930400216842, 0, 0}, true},
		{"119.9999", [3]int{11999, 154, 0}, api.Vec{131930400216842, 1693247906775, 0}, true},
		{"three parts, just below 120", [3]int{6928, 6928, 6928}, api.Vec{76174165572321, 76174165572321, 76174165572321}, true},
		{"one less than 120", [3]int{0, 3360, 11520}, api.Vec{0, 36943590693274, 126663739519795}, true},
		{"120, in the first", [3]int{-12000, 0, 0}, api.Vec{-120 * one, 0, 0}, true},
		{"120, in the second", [3]int{0, 12000, 0}, api.Vec{0, 120 * one, 0}, true},
		{"120, in the third", [3]int{0, 0, -12000}, api.Vec{0, 0, -120 * one}, true},
		{"120, of two", [3]int{7200, -9600, 0}, api.Vec{79164837199872, -105553116266496, 0}, true},
		{"120, of three", [3]int{64, 2752, 11680}, api.Vec{703687441777, 30258559996396, 128422958124237}, true},
		{"120.0000004", [3]int{12000, 1, 0}, api.Vec{}, false},
		{"120.0000004 below 0", [3]int{0, -1, -12000}, api.Vec{}, false},
		{"three parts, just above 120", [3]int{6929, 6928, 6928}, api.Vec{}, false},
		{"12001 counts", [3]int{12001, 0, 0}, api.Vec{}, false},
		{"-12001 counts", [3]int{0, -12001, 0}, api.Vec{}, false},
		{"the greatest count", [3]int{0, 0, 32767}, api.Vec{}, false},
		{"the least count", [3]int{0, 0, -32768}, api.Vec{}, false},
		{"the greatest counts", [3]int{32767, 32767, 32767}, api.Vec{}, false},
		{"the least counts", [3]int{-32768, -32768, -32768}, api.Vec{}, false},
	}
}

func TestReadOfMag(t *testing.T) {
	for _, c := range fields() {
		x := raw(mag, 77, c.counts[:]...)
		got, ok := sensor.Read(x)
		want := api.Reading{Kind: mag, Tick: 77, V: c.want}
		if !c.ok {
			want = api.Reading{}
		}
		if got != want || ok != c.ok {
			t.Errorf("%s: Read of %v: %v, %v; want %v, %v", c.name, c.counts, got, ok, want, c.ok)
		}
	}
}

// light: what the six cells count, and the direction; of those that are refused nothing.
type light struct {
	name   string
	counts [6]int
	want   api.Vec
	ok     bool
}

// lights were worked out outside of the program.
func lights() []light {
	return []light{
		{"dark", [6]int{}, api.Vec{}, false},
		{"none of 2000", [6]int{1999, 0, 1999, 0, 0, 1999}, api.Vec{}, false},
		{"none of 2000, one alone", [6]int{1999}, api.Vec{}, false},
		{"one of 2000", [6]int{2000}, api.Vec{one, 0, 0}, true},
		{"one of 2000 among others", [6]int{1999, 0, 1999, 0, 2000, 0}, api.Vec{634697480805, 634697480805, 635014988299}, true},
		{"the first of a pair against the second", [6]int{2000, 1999}, api.Vec{one, 0, 0}, true},
		{"+x", [6]int{60000, 0, 0, 0, 0, 0}, api.Vec{one, 0, 0}, true},
		{"-x", [6]int{0, 60000, 0, 0, 0, 0}, api.Vec{-one, 0, 0}, true},
		{"+y", [6]int{0, 0, 65535, 0, 0, 0}, api.Vec{0, one, 0}, true},
		{"-y", [6]int{0, 0, 0, 65535, 0, 0}, api.Vec{0, -one, 0}, true},
		{"+z", [6]int{0, 0, 0, 0, 32768, 0}, api.Vec{0, 0, one}, true},
		{"-z", [6]int{0, 0, 0, 0, 3000, 4000}, api.Vec{0, 0, -one}, true},
		{"three and four fifths", [6]int{3000, 0, 4000, 0, 0, 0}, api.Vec{659706976666, 879609302221, 0}, true},
		{"three below 0 and four fifths", [6]int{0, 3000, 4000, 0, 0, 0}, api.Vec{-659706976666, 879609302221, 0}, true},
		{"between x and y", [6]int{300, 5000, 5000, 300, 0, 0}, api.Vec{-777472127997, 777472127997, 0}, true},
		{"between all", [6]int{65535, 0, 65535, 0, 65535, 0}, api.Vec{634803334274, 634803334274, 634803334274}, true},
		{"between all, one below 0", [6]int{60000, 0, 0, 60000, 60000, 0}, api.Vec{634803334274, -634803334274, 634803334274}, true},
		{"between all, two below 0", [6]int{65535, 0, 0, 65535, 0, 65535}, api.Vec{634803334274, -634803334274, -634803334274}, true},
		{"in no symmetry", [6]int{12345, 678, 9, 3456, 50000, 49999}, api.Vec{1054452792161, -311536708201, 90379086}, true},
		{"the lit one is the last", [6]int{1000, 0, 0, 1000, 0, 2000}, api.Vec{448873742390, -448873742390, -897747484779}, true},
		{"a difference of 1", [6]int{65535, 65534, 0, 0, 0, 0}, api.Vec{one, 0, 0}, true},
		{"a difference of -1", [6]int{0, 0, 65534, 65535, 0, 0}, api.Vec{0, -one, 0}, true},
		{"a difference of 1 beside even ones", [6]int{2000, 2000, 2000, 2000, 2000, 1999}, api.Vec{0, 0, one}, true},
		{"differences of 1", [6]int{40000, 40001, 40000, 40001, 40000, 39999}, api.Vec{-634803345667, -634803345667, 634803345667}, true},
		{"1 beside the greatest", [6]int{65535, 0, 1, 0, 0, 0}, api.Vec{1099511627648, 16777472, 0}, true},
		{"1 beside the greatest, below 0", [6]int{0, 65535, 0, 1, 0, 0}, api.Vec{-1099511627648, -16777472, 0}, true},
		{"pairs that are even", [6]int{5000, 5000, 3000, 3000, 0, 0}, api.Vec{}, false},
		{"one pair that is even", [6]int{5000, 5000}, api.Vec{}, false},
	}
}

func TestReadOfSun(t *testing.T) {
	for _, c := range lights() {
		x := raw(sun, last, c.counts[:]...)
		got, ok := sensor.Read(x)
		want := api.Reading{Kind: sun, Tick: last, V: c.want}
		if !c.ok {
			want = api.Reading{}
		}
		if got != want || ok != c.ok {
			t.Errorf("%s: Read of %v: %v, %v; want %v, %v", c.name, c.counts, got, ok, want, c.ok)
		}
	}
}

func TestReadOfSunInEachPlace(t *testing.T) {
	for place := range 6 {
		var to api.Vec
		to[place/2] = one
		if place%2 == 1 {
			to[place/2] = -one
		}
		for _, count := range []int{2000, 2001, 4096, 32767, 32768, 65534, 65535} {
			counts := make([]int, 6)
			counts[place] = count
			reads(t, raw(sun, 0, counts...), api.Reading{Kind: sun, V: to})
		}
		for _, count := range []int{0, 1, 255, 256, 1998, 1999} {
			counts := make([]int, 6)
			counts[place] = count
			readsNone(t, raw(sun, 0, counts...))
		}
	}
}

func TestReadOfSunWhereAllIsAlike(t *testing.T) {
	for _, count := range []int{0, 1, 1999, 2000, 2001, 30000, 32767, 32768, 65534, 65535} {
		readsNone(t, raw(sun, 9, count, count, count, count, count, count))
		for _, other := range []int{0, 2000, 65535} {
			readsNone(t, raw(sun, 9, count, count, other, other, 7, 7))
		}
	}
}

// The bytes were worked out outside of the program.
func TestWrite(t *testing.T) {
	for _, c := range []struct {
		kind   int
		tick   int64
		counts [6]int
		told   string
	}{
		{gyro, 1000, [6]int{32, 0, -32}, "0000000003E8 0020 0000 FFE0"},
		{gyro, 4328719365, [6]int{30000, -30000, 256}, "000102030405 7530 8AD0 0100"},
		{gyro, 0, [6]int{32767, -32768, -1}, "000000000000 7FFF 8000 FFFF"},
		{gyro, last, [6]int{1, 255, -256}, "0024BB9C3800 0001 00FF FF00"},
		{mag, 1000, [6]int{2500, -100, 0}, "0000000003E8 09C4 FF9C 0000"},
		{mag, 69259509840, [6]int{1234, -567, 89}, "001020304050 04D2 FDC9 0059"},
		{mag, 1, [6]int{}, "000000000001 0000 0000 0000"},
		{sun, 1000, [6]int{0, 60000}, "0000000003E8 0000 EA60 0000 0000 0000 0000"},
		{sun, last, [6]int{12345, 678, 9, 3456, 50000, 49999}, "0024BB9C3800 3039 02A6 0009 0D80 C350 C34F"},
		{sun, 255, [6]int{65535, 65535, 65535, 65535, 65535, 65535}, "0000000000FF FFFF FFFF FFFF FFFF FFFF FFFF"},
		{sun, 256, [6]int{1, 2, 3, 4, 5, 6}, "000000000100 0001 0002 0003 0004 0005 0006"},
		{sun, 0, [6]int{}, "000000000000 0000 0000 0000 0000 0000 0000"},
	} {
		writes(t, c.kind, c.tick, c.counts, api.Frame{Kind: c.kind, Data: bytesOf(t, c.told)})
	}
}

func TestWriteOfForeignKinds(t *testing.T) {
	for _, kind := range foreign() {
		writesNone(t, kind, 0, [6]int{})
		writesNone(t, kind, 1000, [6]int{1, 2, 3, 4, 5, 6})
		writesNone(t, kind, -1, [6]int{70000})
	}
}

func TestWriteOfTicks(t *testing.T) {
	for _, kind := range kinds() {
		var counts [6]int
		copy(counts[:], plain(kind))
		for _, tick := range []int64{0, 1, 255, 256, 1<<31 - 1, 1 << 31, 1<<32 - 1, 1 << 32, last - 1, last} {
			writes(t, kind, tick, counts, raw(kind, tick, plain(kind)...))
		}
		for _, tick := range []int64{
			-1, -2, -1000, -last, last + 1, last + 2, 1 << 40, 1 << 47, 1 << 48, 1<<48 + 1000, 1<<62 + 1000, -1 << 48,
			math.MaxInt64, math.MaxInt64 - 1, math.MinInt64, math.MinInt64 + 1, math.MinInt64 + 1000,
		} {
			writesNone(t, kind, tick, counts)
		}
	}
}

func TestWriteOfCounts(t *testing.T) {
	signed := []int{-32768, -32767, -30001, -1, 0, 1, 255, 256, 30001, 32766, 32767}
	plain := []int{0, 1, 255, 256, 1999, 32767, 32768, 65534, 65535}
	far := []int{65537, -65536, -65537, 1<<20 + 7, 1<<32 + 1, -1<<32 + 1, math.MaxInt32, math.MinInt32, math.MaxInt, math.MaxInt - 1, math.MinInt, math.MinInt + 1}
	for _, c := range []struct {
		kind, places int
		fit, none    []int
	}{
		{gyro, 3, signed, append([]int{-32769, -32770, 32768, 32769, 65535, 65536}, far...)},
		{mag, 3, signed, append([]int{-32769, -32770, 32768, 32769, 65535, 65536}, far...)},
		{sun, 6, plain, append([]int{-1, -2, -32768, 65536}, far...)},
	} {
		for place := range c.places {
			counts := [6]int{11, 22, 33, 44, 55, 66}
			for _, n := range c.fit {
				counts[place] = n
				writes(t, c.kind, 1000, counts, raw(c.kind, 1000, counts[:c.places]...))
			}
			for _, n := range c.none {
				counts[place] = n
				writesNone(t, c.kind, 1000, counts)
			}
		}
	}
}

// Of gyro and mag the last three counts aren't written: whatever they are, they are nothing.
func TestWriteOfCountsThatAreNotWritten(t *testing.T) {
	for _, kind := range []int{gyro, mag} {
		for place := 3; place < 6; place++ {
			for _, n := range []int{-1, 0, 1, 32767, 32768, -32768, -32769, 65535, 65536, 1 << 32, math.MaxInt, math.MinInt} {
				counts := [6]int{100, -200, 300}
				counts[place] = n
				writes(t, kind, 5, counts, raw(kind, 5, 100, -200, 300))
			}
		}
		writes(t, kind, 5, [6]int{-32768, 32767, 0, math.MinInt, math.MaxInt, math.MinInt}, raw(kind, 5, -32768, 32767, 0))
		writesNone(t, kind, 5, [6]int{0, 0, 32768, math.MinInt, math.MaxInt, 0})
	}
}

func TestFresh(t *testing.T) {
	const least, greatest = math.MinInt64, math.MaxInt64
	for _, c := range []struct {
		tick, now int64
		want      bool
	}{
		{10, 8, false}, {10, 9, false}, {10, 10, true}, {10, 11, true}, {10, 509, true}, {10, 510, true}, {10, 511, false}, {10, 512, false},
		{0, -1, false}, {0, 0, true}, {0, 500, true}, {0, 501, false}, {0, last, false},
		{last, last - 1, false}, {last, last, true}, {last, last + 500, true}, {last, last + 501, false}, {last, 0, false},
		{1 << 32, 1<<32 + 500, true}, {1 << 32, 1<<32 + 501, false}, {0, 1 << 32, false}, {0, 1<<32 + 500, false},
		{-1, -2, false}, {-1, -1, true}, {-1, 499, true}, {-1, 500, false}, {-500, 0, true}, {-501, 0, false}, {-600, -100, true}, {-600, -99, false},
		{least, least, true}, {least, least + 500, true}, {least, least + 501, false}, {least, -1, false}, {least, 0, false}, {least, 1, false},
		{least, greatest, false}, {least, greatest - 1, false}, {least + 1, greatest, false}, {least + 500, least, false}, {least + 1, least, false},
		{greatest, greatest, true}, {greatest - 500, greatest, true}, {greatest - 501, greatest, false}, {greatest, greatest - 1, false}, {greatest, 0, false},
		{greatest, least, false}, {greatest, least + 499, false}, {greatest - 1, least, false}, {-1, greatest, false}, {-2, greatest, false}, {1, least, false}, {0, least, false}, {0, greatest, false},
	} {
		for _, r := range []api.Reading{{}, {Kind: gyro, V: api.Vec{1, 2, 3}}, {Kind: math.MinInt, V: api.Vec{math.MinInt64, math.MaxInt64, 0}}} {
			r.Tick = c.tick
			if got := sensor.Fresh(r, c.now); got != c.want {
				t.Errorf("Fresh of %v at %d: %v", r, c.now, got)
			}
		}
	}
}
