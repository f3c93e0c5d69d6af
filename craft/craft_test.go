package craft_test

import (
	"math"
	"strings"
	"testing"

	"alidade/api"
	"alidade/craft"
	"alidade/orders"
)

// odd: a craft that no steps lead to.
func odd() api.Craft {
	return api.Craft{
		Tick: 5000, Left: "xyz", Plan: api.Plan{Mode: 9, Calm: -1, Good: 200, Miss: 7, Lost: 8, Faults: 99},
		Drift: api.Drift{On: true, Rate: api.Vec{math.MaxInt64}}, Guess: api.Guess{Q: api.Quat{1, 2, 3, 4}},
		Ack: 300, Err: -1, Rejects: 70000,
	}
}

// refused: the craft itself, and nothing told.
func refused(t *testing.T, c api.Craft, tick int64) {
	t.Helper()
	for _, bytes := range []string{"", "zz", order(7, api.OrderSafe) + "\xA5", gyro(5000) + order(7, api.OrderClear)} {
		if got, s := craft.Step(c, tick, bytes); got != c || s != "" {
			t.Errorf("Step(%+v, %d, %X): %+v, %X", c, tick, bytes, got, s)
		}
	}
}

// goes: a step is done.
func goes(t *testing.T, c api.Craft, tick int64) {
	t.Helper()
	for _, bytes := range []string{"", order(7, api.OrderSafe)} {
		if got := step(t, c, tick, bytes); !got.On || got.Tick != tick {
			t.Errorf("Step(%+v, %d, %X): %+v", c, tick, bytes, got)
		}
	}
}

func TestTicksThatArentRight(t *testing.T) {
	on := odd()
	on.On = true
	for _, c := range []api.Craft{{}, {Tick: -9}, {On: true, Tick: -9}, in(api.Fine, seen), odd(), on} {
		for _, tick := range []int64{-1, -2, math.MinInt64, api.MaxTick + 1, api.MaxTick + 2, math.MaxInt64} {
			refused(t, c, tick)
		}
	}
	for _, tick := range []int64{0, 1, api.MaxTick - 1, api.MaxTick} {
		goes(t, api.Craft{}, tick)
	}
}

func TestTicksOfACraftThatIsOn(t *testing.T) {
	c := api.Craft{On: true, Tick: 5000}
	for _, tick := range []int64{0, 1, 4999, 5000} {
		refused(t, c, tick)
	}
	for _, tick := range []int64{5001, 5002, 6000, api.MaxTick} {
		goes(t, c, tick)
	}
	refused(t, api.Craft{On: true}, 0)
	goes(t, api.Craft{On: true}, 1)
	for _, last := range []int64{api.MaxTick, api.MaxTick + 1, math.MaxInt64} {
		refused(t, api.Craft{On: true, Tick: last}, 0)
		refused(t, api.Craft{On: true, Tick: last}, api.MaxTick)
	}
	goes(t, api.Craft{On: true, Tick: api.MaxTick - 1}, api.MaxTick)
	for _, last := range []int64{-1, -500, math.MinInt64} {
		goes(t, api.Craft{On: true, Tick: last}, 0)
		goes(t, api.Craft{On: true, Tick: last}, api.MaxTick)
	}
}

func TestTicksOfACraftThatIsntOn(t *testing.T) {
	for _, last := range []int64{0, 5000, -5000, api.MaxTick, math.MaxInt64, math.MinInt64} {
		for _, tick := range []int64{0, 1, 4999, 5000, 5001, api.MaxTick} {
			goes(t, api.Craft{Tick: last}, tick)
		}
	}
}

// A frame may be cut at each place: it counts as if it had come wholly in the second step.
func TestFramesInTwoParts(t *testing.T) {
	tick := int64(seen)
	g, s, m := gyro(tick+500), cells(tick+500), mag(tick+500)
	for _, l := range []struct{ name, cut, behind string }{
		{"gyro", gyro(tick), s + m}, {"sun", cells(tick), g + m}, {"mag", mag(tick), g + s},
		{"safe", order(5, api.OrderSafe), g}, {"orbit", order(6, api.OrderOrbit), g + s + m}, {"clear", order(7, api.OrderClear), ""},
		{"foreign", wrapped(99, "abc"), g + s + m}, {"none", says(api.KindGyro, tick, 30001), ""}, {"wrong", wrapped(api.KindOrder, "\x08\x09"), ""},
	} {
		c := in(api.Coarse, tick-500)
		c.Rejects, c.Plan.Faults, c.Orbit.M = 3, api.FaultGate, 5
		for cut := range len(l.cut) {
			first, whole := step(t, c, tick, l.cut[:cut]), step(t, c, tick, "")
			if first.Left != l.cut[:cut] {
				t.Fatalf("%s, cut at %d: left %X", l.name, cut, first.Left)
			}
			alike := whole
			alike.Left = first.Left
			if first != alike {
				t.Fatalf("%s, cut at %d: %+v; want %+v", l.name, cut, first, alike)
			}
			got, want := step(t, first, tick+500, l.cut[cut:]+l.behind), step(t, whole, tick+500, l.cut+l.behind)
			if got != want || got == step(t, whole, tick+500, l.behind) {
				t.Fatalf("%s, cut at %d: %+v; want %+v", l.name, cut, got, want)
			}
		}
	}
}

// The second part may come so late that the reading is stale.
func TestAReadingInTwoPartsThatGetsStale(t *testing.T) {
	s := gyro(1000)
	first := step(t, api.Craft{}, 1000, s[:9])
	if got := step(t, first, 1500, s[9:]); got.Plan.Calm != 1 || got.Rejects != 0 {
		t.Errorf("just fresh: %+v", got)
	}
	if got := step(t, first, 1501, s[9:]); got.Plan.Calm != 0 || got.Rejects != 1 {
		t.Errorf("stale: %+v", got)
	}
}

// Even a frame in five parts counts where its last one comes, and more may be left behind it.
func TestFramesInManyParts(t *testing.T) {
	s := order(9, api.OrderClear)
	c := api.Craft{Rejects: 4}
	for i, part := range []string{s[:1], s[1:3], "", s[3:6]} {
		c = step(t, c, int64(100*i), part)
		if c.Rejects != 4 || c.Ack != 0 {
			t.Fatalf("part %d: %+v", i, c)
		}
	}
	c = step(t, c, 1000, s[6:]+s[:2])
	if c.Rejects != 0 || c.Ack != 9 || c.Left != s[:2] {
		t.Errorf("%+v", c)
	}
}

// Bytes that are passed over are rejected once in a step, as many as they are, and change nothing else.
func TestBytesThatArePassedOver(t *testing.T) {
	spoilt := gyro(seen)[:8] + "\x7F" + gyro(seen)[9:]
	for _, s := range []string{"x", "xyz", strings.Repeat("\x00", 5000), "\xA5\x01\x41", "\xA5\xA5\xFF\xFF", spoilt, spoilt + "x" + spoilt} {
		c := in(api.Coarse, seen-500)
		c.Rejects = 20
		want := step(t, c, seen, "")
		want.Rejects = 21
		if got := step(t, c, seen, s); got != want {
			t.Errorf("%X: %+v; want %+v", s, got, want)
		}
	}
	c := in(api.Coarse, seen-500)
	want := step(t, c, seen, gyro(seen)+cells(seen)+mag(seen))
	if want.Plan.Good != 1 || want.Rejects != 0 {
		t.Fatalf("%+v", want)
	}
	want.Rejects = 1
	if got := step(t, c, seen, "x"+gyro(seen)+"yz"+cells(seen)+"w"+mag(seen)+"v"); got != want {
		t.Errorf("among frames: %+v; want %+v", got, want)
	}
	if got := step(t, want, seen+500, "u"); got.Rejects != 2 {
		t.Errorf("in the next step: %+v", got)
	}
	// What was left, and comes to nothing: its A5 is passed over in the later step.
	half := step(t, c, seen, gyro(seen)[:10])
	if half.Rejects != 0 || half.Left == "" {
		t.Errorf("left: %+v", half)
	}
	if got := step(t, half, seen+500, strings.Repeat("x", 20)); got.Rejects != 1 || got.Left != "" {
		t.Errorf("left, and spoilt: %+v", got)
	}
}

// there: does a kind's reading count, that comes by these frames in this step?
func there(t *testing.T, kind int, tick int64, frames string) (bool, api.Craft) {
	t.Helper()
	switch kind {
	case api.KindGyro:
		c := step(t, in(api.Detumble, tick-500), tick, frames)
		return c.Plan.Calm == 1, c
	case api.KindSun:
		c := step(t, in(api.Coarse, tick-500), tick, gyro(tick)+mag(tick)+frames)
		return c.Plan.Good == 1, c
	}
	c := step(t, in(api.Coarse, tick-500), tick, gyro(tick)+cells(tick)+frames)
	if (c.Plan.Good == 1) != c.Drift.On {
		t.Errorf("mag: %+v", c)
	}
	return c.Plan.Good == 1, c
}

// with: the bytes of a frame of which the data is changed.
func with(s string, change func(data string) string) string {
	return wrapped(int(s[1]), change(s[3:len(s)-2]))
}

func TestReadingsThatAreNone(t *testing.T) {
	longer := func(data string) string { return data + "\x00" }
	shorter := func(data string) string { return data[:len(data)-1] }
	tooLate := func(data string) string { return "\x00\x24\xBB\x9C\x38\x01" + data[6:] }
	for _, k := range []struct {
		kind int
		good []string
		none []string
	}{
		{api.KindGyro, []string{gyro(seen), says(api.KindGyro, seen, 0, 1638, 0)}, []string{
			says(api.KindGyro, seen, 30001), says(api.KindGyro, seen, 0, -30001), says(api.KindGyro, seen, 0, 0, 32767),
			with(gyro(seen), longer), with(gyro(seen), shorter), with(gyro(seen), tooLate),
		}},
		{api.KindSun, []string{cells(seen), says(api.KindSun, seen, 2000)}, []string{
			says(api.KindSun, seen), says(api.KindSun, seen, 1999), says(api.KindSun, seen, 3000, 3000),
			with(cells(seen), longer), with(cells(seen), shorter), with(cells(seen), tooLate),
		}},
		{api.KindMag, []string{mag(seen), says(api.KindMag, seen, 0, 100), says(api.KindMag, seen, 0, 12000)}, []string{
			says(api.KindMag, seen), says(api.KindMag, seen, 0, 99), says(api.KindMag, seen, 0, 12001),
			with(mag(seen), longer), with(mag(seen), shorter), with(mag(seen), tooLate),
		}},
	} {
		for _, s := range k.good {
			if ok, c := there(t, k.kind, seen, s); !ok || c.Rejects != 0 {
				t.Errorf("kind %d, %X: %v, %+v", k.kind, s, ok, c)
			}
		}
		for _, s := range k.none {
			ok, c := there(t, k.kind, seen, s)
			_, want := there(t, k.kind, seen, "")
			if want.Rejects++; ok || c != want {
				t.Errorf("kind %d, %X: %v, %+v; want %+v", k.kind, s, ok, c, want)
			}
		}
	}
}

func TestReadingsThatAreStaleOrJustFresh(t *testing.T) {
	for kind, say := range map[int]func(int64) string{api.KindGyro: gyro, api.KindSun: cells, api.KindMag: mag} {
		for back, fresh := range map[int64]bool{0: true, 1: true, 499: true, 500: true, 501: false, 1000: false, seen: false, -1: false, -500: false} {
			ok, c := there(t, kind, seen, say(seen-back))
			if ok != fresh {
				t.Errorf("kind %d, %d back: %v", kind, back, ok)
			}
			_, want := there(t, kind, seen, "")
			if want.Rejects++; !fresh && c != want {
				t.Errorf("kind %d, %d back: %+v; want %+v", kind, back, c, want)
			}
			if fresh && c.Rejects != 0 {
				t.Errorf("kind %d, %d back: %+v", kind, back, c)
			}
		}
	}
}

// Of two readings of one kind the last one counts; one that is rejected is none.
func TestTwoReadingsOfOneKind(t *testing.T) {
	along := says(api.KindSun, seen, 0, 0, 30000)
	beside := says(api.KindMag, seen, 3000)
	for _, k := range []struct {
		kind      int
		good, bad string // a reading that leads on, and one that doesn't
		none      string
	}{
		{api.KindGyro, gyro(seen), quickly(seen), gyro(seen - 501)},
		{api.KindSun, cells(seen), along, says(api.KindSun, seen)},
		{api.KindMag, mag(seen), beside, says(api.KindMag, seen)},
	} {
		for _, l := range []struct {
			frames  string
			ok      bool
			rejects int
		}{
			{k.good + k.good, true, 0},
			{k.bad + k.good, true, 0},
			{k.good + k.none, true, 1},
			{k.none + k.good, true, 1},
			{k.bad + k.none + k.good + k.none, true, 2},
		} {
			if ok, c := there(t, k.kind, seen, l.frames); ok != l.ok || c.Rejects != l.rejects {
				t.Errorf("kind %d, %X: %v, %+v", k.kind, l.frames, ok, c)
			}
		}
	}
	if got := step(t, in(api.Detumble, seen-500), seen, gyro(seen)+quickly(seen)); got.Plan.Calm != 0 || got.Rejects != 0 {
		t.Errorf("gyro: %+v", got)
	}
	if got := step(t, in(api.Coarse, seen-500), seen, gyro(seen)+mag(seen)+cells(seen)+along); got.Plan.Good != 0 || got.Rejects != 0 {
		t.Errorf("sun: %+v", got)
	}
	if got := step(t, in(api.Coarse, seen-500), seen, gyro(seen)+mag(seen)+beside+cells(seen)); got.Plan.Good != 0 || got.Drift.Last != reading(beside).V || got.Drift.Rate != (api.Vec{}) {
		t.Errorf("mag: %+v", got)
	}
}

// Of all kinds, those that are no sensor's and not KindOrder are rejected, each frame once.
func TestForeignKinds(t *testing.T) {
	for kind := range 256 {
		if kind == api.KindGyro || kind == api.KindSun || kind == api.KindMag || kind == api.KindOrder {
			continue
		}
		for _, data := range []string{"", "\x05\x01", gyro(seen)[3:15], strings.Repeat("\xA5", 64)} {
			for _, mode := range []int{api.Detumble, api.Coarse, api.Safe} {
				c := in(mode, seen-500)
				c.Rejects, c.Ack, c.Err = 7, 8, 2
				want := step(t, c, seen, "")
				want.Rejects = 8
				if got := step(t, c, seen, wrapped(kind, data)); got != want {
					t.Fatalf("kind %d, %X: %+v; want %+v", kind, data, got, want)
				}
			}
		}
	}
	if got := step(t, api.Craft{}, 5, wrapped(0, "")+wrapped(255, "")+wrapped(api.KindTell, "")); got.Rejects != 3 {
		t.Errorf("three: %+v", got)
	}
}

// Each order, in each mode, with faults and rejects.
func TestOrders(t *testing.T) {
	for mode, plan := range []api.Plan{{Calm: 1}, {Mode: api.Coarse}, {}, {Mode: api.Safe, Lost: 2}} {
		if mode == api.Fine {
			continue
		}
		c := in(mode, seen-500)
		c.Plan = plan
		c.Plan.Faults, c.Rejects, c.Ack, c.Err = 9, 6, 1, 3
		c.Orbit.M = 77
		c.Placed = false
		other := step(t, c, seen, "")
		other.Ack, other.Err = 5, 0
		for code := api.OrderSafe; code <= api.OrderClear; code++ {
			want := other
			switch {
			case code == api.OrderSafe:
				want.Plan = api.Plan{Mode: api.Safe, Faults: 9}
			case code == api.OrderWake && mode == api.Safe:
				want.Plan = api.Plan{}
			case code == api.OrderOrbit:
				want.Placed, want.Orbit = true, around()
			case code == api.OrderClear:
				want.Rejects, want.Plan.Faults = 0, 0
			}
			if got := step(t, c, seen, order(5, code)); got != want {
				t.Errorf("mode %d, code %d: %+v; want %+v", mode, code, got, want)
			}
		}
	}
}

// Safe from everywhere, Fine and what is no mode among them.
func TestSafeFromEverywhere(t *testing.T) {
	c, b := comesToFine(t, still(seen))
	for _, mode := range []int{api.Detumble, api.Coarse, api.Fine, api.Safe, -1, 4, math.MaxInt} {
		for _, ms := range []int64{5, 500, 20000} {
			c.Plan = api.Plan{Mode: mode, Calm: 2, Good: 1, Miss: 3, Lost: 2, Faults: 6}
			got := step(t, c, c.Tick+ms, order(255, api.OrderSafe)+b.later(ms).all())
			if got.Plan != (api.Plan{Mode: api.Safe, Faults: 6}) || got.Guess != (api.Guess{}) || got.Ack != 255 || got.Rejects != 0 {
				t.Errorf("mode %d, %d later: %+v", mode, ms, got)
			}
		}
	}
}

// An order with elements counts in its own step.
func TestElementsCountAtOnce(t *testing.T) {
	c := in(api.Coarse, seen-500)
	c.Placed, c.Orbit = false, api.Orbit{}
	all := gyro(seen) + cells(seen) + mag(seen)
	if got := step(t, c, seen, all); got.Plan.Good != 0 {
		t.Errorf("without: %+v", got)
	}
	for _, bytes := range []string{order(5, api.OrderOrbit) + all, all + order(5, api.OrderOrbit)} {
		if got := step(t, c, seen, bytes); got.Plan.Good != 1 || !got.Placed || got.Orbit != around() {
			t.Errorf("with: %+v", got)
		}
	}
}

// elements: the data of an order with elements, right or not.
func elements(o api.Orbit) string {
	data := []byte{5, api.OrderOrbit}
	for _, n := range []int64{o.A, o.E, o.I, o.Node, o.Peri, o.M, o.At} {
		for shift := 56; shift >= 0; shift -= 8 {
			data = append(data, byte(n>>shift))
		}
	}
	return string(data)
}

func TestOrdersThatAreWrong(t *testing.T) {
	if _, wrong := orders.Read(api.Frame{Kind: api.KindOrder, Data: elements(around())}); wrong != 0 {
		t.Fatal(wrong)
	}
	low, far, late, turned := around(), around(), around(), around()
	low.A, far.E, late.At, turned.I = 7232738120603, 109951162778, api.MaxTick+1, -1
	for _, l := range []struct {
		data     string
		ack, err int
	}{
		{"", 0, 1}, {"\x05", 0, 1}, {"\x05\x00", 5, 2}, {"\x05\x05", 5, 2}, {"\xFF\xFF", 255, 2}, {"\x05\x05\x00", 5, 2},
		{"\x05\x01\x00", 5, 1}, {"\x05\x02\x00", 5, 1}, {"\x05\x04\x00", 5, 1}, {"\x05\x03", 5, 1}, {"\x00\x01\x01", 0, 1},
		{elements(around())[:57], 5, 1}, {elements(around()) + "\x00", 5, 1}, {"\x05\x01" + elements(around())[2:], 5, 1},
		{elements(low), 5, 3}, {elements(far), 5, 3}, {elements(late), 5, 3}, {elements(turned), 5, 3}, {elements(api.Orbit{}), 5, 3},
	} {
		for _, mode := range []int{api.Detumble, api.Coarse, api.Safe} {
			c := in(mode, seen-500)
			c.Rejects, c.Ack, c.Plan.Faults, c.Orbit.M = 7, 99, 2, 12
			want := step(t, c, seen, "")
			want.Rejects, want.Ack, want.Err = 8, l.ack, l.err
			if got := step(t, c, seen, wrapped(api.KindOrder, l.data)); got != want {
				t.Errorf("%X in mode %d: %+v; want %+v", l.data, mode, got, want)
			}
		}
	}
}

func TestTwoOrdersInOneStep(t *testing.T) {
	safe, wake, orbit, clear := order(1, api.OrderSafe), order(2, api.OrderWake), order(3, api.OrderOrbit), order(4, api.OrderClear)
	wrong, foreign := wrapped(api.KindOrder, "\x09\x09"), wrapped(99, "")
	other := elements(api.Orbit{A: 8 * one})
	for _, l := range []struct {
		name              string
		bytes             string
		mode              int
		want              api.Plan
		ack, err, rejects int
		a                 int64
	}{
		{"safe, wake", safe + wake, api.Coarse, api.Plan{Mode: api.Coarse, Faults: 8}, 2, 0, 10, 7},
		{"safe, wake in Safe", safe + wake, api.Safe, api.Plan{}, 2, 0, 10, 7},
		{"wake, safe", wake + safe, api.Coarse, api.Plan{Mode: api.Safe, Faults: 8}, 1, 0, 10, 7},
		{"wake, safe in Safe", wake + safe, api.Safe, api.Plan{Mode: api.Safe, Faults: 8}, 1, 0, 10, 7},
		{"safe, wrong", safe + wrong, api.Coarse, api.Plan{Mode: api.Safe, Faults: 8}, 9, 2, 11, 7},
		{"wrong, safe", wrong + safe, api.Coarse, api.Plan{Mode: api.Safe, Faults: 8}, 1, 0, 11, 7},
		{"safe, clear", safe + clear, api.Coarse, api.Plan{Mode: api.Safe}, 4, 0, 0, 7},
		{"clear, safe", clear + safe, api.Coarse, api.Plan{Mode: api.Safe}, 1, 0, 0, 7},
		{"wake, orbit in Safe", wake + orbit, api.Safe, api.Plan{}, 3, 0, 10, 7},
		{"two orbits", wrapped(api.KindOrder, other) + orbit, api.Coarse, api.Plan{Mode: api.Coarse, Faults: 8}, 3, 0, 10, 7},
		{"two orbits, turned", orbit + wrapped(api.KindOrder, other), api.Coarse, api.Plan{Mode: api.Coarse, Faults: 8}, 5, 0, 10, 8},
		{"clear, wrong", clear + wrong, api.Coarse, api.Plan{Mode: api.Coarse}, 9, 2, 1, 7},
		{"wrong, clear", wrong + clear, api.Coarse, api.Plan{Mode: api.Coarse}, 4, 0, 0, 7},
		{"clear, foreign", clear + foreign + foreign, api.Coarse, api.Plan{Mode: api.Coarse}, 4, 0, 2, 7},
		{"foreign, clear", foreign + clear, api.Coarse, api.Plan{Mode: api.Coarse}, 4, 0, 0, 7},
		{"passed over, clear", "x" + clear, api.Coarse, api.Plan{Mode: api.Coarse}, 4, 0, 0, 7},
		{"clear, passed over: told ahead of all frames", clear + "x", api.Coarse, api.Plan{Mode: api.Coarse}, 4, 0, 0, 7},
	} {
		c := in(l.mode, seen-500)
		c.Plan.Faults, c.Rejects = 8, 10
		got := step(t, c, seen, l.bytes)
		if got.Plan != l.want || got.Ack != l.ack || got.Err != l.err || got.Rejects != l.rejects || got.Orbit.A != l.a*one {
			t.Errorf("%s: %+v", l.name, got)
		}
	}
}

// Faults that a step comes to stand behind a clear of that step.
func TestFaultsBehindClear(t *testing.T) {
	c := in(api.Coarse, seen)
	c.Plan.Faults = 14
	if got := step(t, c, seen+10001, order(4, api.OrderClear)); got.Plan.Faults != api.FaultGap {
		t.Errorf("%+v", got)
	}
}

// Rejects end at 65535, and whatever they were ahead of it, of any craft, by all ways to reject.
func TestRejects(t *testing.T) {
	for name, s := range map[string]string{
		"passed over": "x", "none": says(api.KindSun, seen), "stale": gyro(seen - 501), "to come": mag(seen + 1),
		"wrong": wrapped(api.KindOrder, ""), "foreign": wrapped(api.KindTell, ""),
	} {
		for was, want := range map[int]int{
			0: 1, 1: 2, 255: 256, 65533: 65534, 65534: 65535, 65535: 65535, 65536: 65535, 70000: 65535, math.MaxInt: 65535,
			-1: 0, -2: -1, -70000: -69999, math.MinInt: math.MinInt + 1,
		} {
			c := in(api.Coarse, seen-500)
			c.Rejects = was
			got, told := compare(t, c, seen, s)
			if got.Rejects != want || (told == "") != (want < 0) {
				t.Errorf("%s, %d: %d, %X", name, was, got.Rejects, told)
			}
			if got, _ = compare(t, c, seen, gyro(seen)); got.Rejects != was {
				t.Errorf("nothing rejected, %d: %d", was, got.Rejects)
			}
		}
	}
	c := in(api.Coarse, seen-500)
	for was, want := range map[int]int{65532: 65535, 65533: 65535, 65534: 65535, 65535: 65535, -2: 1} {
		c.Rejects = was
		if got := step(t, c, seen, "x"+wrapped(99, "")+"y"+gyro(seen-501)); got.Rejects != want {
			t.Errorf("three, from %d: %d", was, got.Rejects)
		}
	}
}
