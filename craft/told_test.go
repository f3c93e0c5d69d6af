package craft_test

import (
	"encoding/hex"
	"math"
	"testing"

	"alidade/api"
	"alidade/craft"
	"alidade/frame"
)

// told: what a step tells, as the frame's data.
func told(t *testing.T, c api.Craft, tick int64, bytes string) (api.Craft, string) {
	t.Helper()
	next, s := compare(t, c, tick, bytes)
	x, ok := frame.Open(s)
	if !ok || x.Kind != api.KindTell || len(x.Data) != 26 || len(s) != 31 {
		t.Fatalf("Step(%+v, %d, %X) tells %X", c, tick, bytes, s)
	}
	return next, x.Data
}

// Each part at its place, in bytes that were worked out by hand.
func TestWhatIsTold(t *testing.T) {
	if _, s := craft.Step(api.Craft{}, 0, ""); hex.EncodeToString([]byte(s)) != "a5201a0000000000000000000000000000000000000000000000000000b926" {
		t.Errorf("the zero craft: %X", s)
	}
	for _, l := range []struct {
		name   string
		c      api.Craft
		tick   int64
		bytes  string
		want   string // tick, mode, faults, Ack, Err, Rejects
		dipole string
	}{
		{"the last tick", api.Craft{}, api.MaxTick, "", "0024bb9c3800" + "00" + "00" + "00" + "00" + "0000", "000000000000"},
		{"a tick", api.Craft{}, 0x0102030405, "", "000102030405" + "00" + "00" + "00" + "00" + "0000", "000000000000"},
		{"mode and faults", api.Craft{Plan: api.Plan{Mode: api.Coarse, Faults: 14}}, 7, "", "000000000007" + "01" + "0f" + "00" + "00" + "0000", "000000000000"},
		{"Safe", api.Craft{Plan: api.Plan{Mode: api.Safe, Faults: 5}}, 7, "", "000000000007" + "03" + "05" + "00" + "00" + "0000", "000000000000"},
		{"what was no mode", api.Craft{Plan: api.Plan{Mode: 77}}, 7, "", "000000000007" + "03" + "00" + "00" + "00" + "0000", "000000000000"},
		{"Ack, Err, Rejects", api.Craft{Ack: 255, Err: 254, Rejects: 65535}, 7, "", "000000000007" + "00" + "00" + "ff" + "fe" + "ffff", "000000000000"},
		{"an order", api.Craft{Ack: 255, Err: 254, Rejects: 258}, 7, order(200, api.OrderWake), "000000000007" + "00" + "00" + "c8" + "00" + "0102", "000000000000"},
		{"an order that is wrong", api.Craft{Rejects: 257}, 7, wrapped(api.KindOrder, "\x11\x22"), "000000000007" + "00" + "00" + "11" + "02" + "0102", "000000000000"},
		{"a dipole", api.Craft{Drift: api.Drift{On: true, Rate: api.Vec{one, -one, one / 8}}}, 7, "", "000000000007" + "00" + "00" + "00" + "00" + "0000", "f83007d0fec7"},
	} {
		_, data := told(t, l.c, l.tick, l.bytes)
		if got := hex.EncodeToString([]byte(data)); got != l.want+"0000000000000000"+l.dipole {
			t.Errorf("%s: %s; want %s", l.name, got, l.want+"0000000000000000"+l.dipole)
		}
	}
}

// The attitude is told in Fine alone, in counts of 2^-14.
func TestTheAttitudeThatIsTold(t *testing.T) {
	c, b := comesToFine(t, slowly(seen))
	b = b.later(500)
	c, data := told(t, c, b.tick, b.all())
	for i, q := range c.Guess.Q {
		n := int16(uint16(data[12+2*i])<<8 | uint16(data[13+2*i]))
		if d := int64(n)<<26 - q; d > 1<<25 || d < -1<<25 || n == 0 {
			t.Errorf("part %d: %d as %d", i, q, n)
		}
	}
	if _, data = told(t, c, b.tick+10001, ""); data[12:20] != "\x00\x00\x00\x00\x00\x00\x00\x00" {
		t.Errorf("in Coarse: %X", data)
	}
}

// dipole: what a step tells of the coils.
func dipole(t *testing.T, c api.Craft, tick int64, bytes string) [3]int {
	t.Helper()
	_, s := compare(t, c, tick, bytes)
	x, ok := tells(s)
	if !ok {
		t.Fatalf("%+v tells %X", c, s)
	}
	return x.Dipole
}

// The dipole in Detumble, and outside of it: the mode behind the step counts, and the change behind it.
func TestTheDipoleThatIsTold(t *testing.T) {
	drift := api.Drift{On: true, Tick: seen - 2000, Rate: api.Vec{one / 2, -4 * one, -one / 1000}}
	want := [3]int{-1250, 2000, 3}
	for _, mode := range []int{api.Detumble, api.Coarse, api.Fine, api.Safe, 9} {
		c := in(mode, seen-500)
		c.Drift = drift
		now := [3]int{}
		if mode == api.Detumble {
			now = want
		}
		if got := dipole(t, c, seen, ""); got != now {
			t.Errorf("mode %d: %v", mode, got)
		}
		if got := dipole(t, c, seen, order(1, api.OrderSafe)); got != ([3]int{}) {
			t.Errorf("mode %d, to Safe: %v", mode, got)
		}
	}
	c := in(api.Detumble, seen-500)
	c.Drift = drift
	c.Plan.Calm = 2
	if got := dipole(t, c, seen, gyro(seen)); got != ([3]int{}) {
		t.Errorf("to Coarse: %v", got)
	}
	c.Plan = api.Plan{Mode: api.Coarse}
	if got := dipole(t, c, seen, quickly(seen)); got != want {
		t.Errorf("from Coarse: %v", got)
	}
	c.Plan = api.Plan{Mode: api.Safe}
	if got := dipole(t, c, seen, order(1, api.OrderWake)); got != want {
		t.Errorf("from Safe: %v", got)
	}
	// In the two seconds the field went by (0, 30, 0): half of the way to that change.
	c.Plan = api.Plan{}
	if got := dipole(t, c, seen, mag(seen)); got != ([3]int{-625, -2000, 1}) {
		t.Errorf("with a reading: %v", got)
	}
	c.Drift.On = false
	if got := dipole(t, c, seen, ""); got != ([3]int{}) {
		t.Errorf("of a change that isn't On: %v", got)
	}
	// Where its flow goes bad there is none in any part.
	c.Drift = api.Drift{On: true, Rate: api.Vec{one, math.MaxInt64, one}}
	if got := dipole(t, c, seen, ""); got != ([3]int{}) {
		t.Errorf("of a change that is no number: %v", got)
	}
}

// What may not be told, of any craft: the step is done, and nothing is answered.
func TestWhatMayNotBeTold(t *testing.T) {
	for name, spoil := range map[string]func(c *api.Craft){
		"faults 16":     func(c *api.Craft) { c.Plan.Faults = 16 },
		"faults -1":     func(c *api.Craft) { c.Plan.Faults = -1 },
		"Ack 256":       func(c *api.Craft) { c.Ack = 256 },
		"Ack -1":        func(c *api.Craft) { c.Ack = -1 },
		"Err 256":       func(c *api.Craft) { c.Err = 256 },
		"Err -1":        func(c *api.Craft) { c.Err = math.MinInt },
		"Rejects 65536": func(c *api.Craft) { c.Rejects = 65536 },
		"Rejects -1":    func(c *api.Craft) { c.Rejects = -1 },
	} {
		for _, mode := range []int{api.Detumble, api.Coarse, api.Safe, 5} {
			well := in(mode, seen-500)
			c := well
			spoil(&c)
			want, _ := compare(t, well, seen, gyro(seen)+mag(seen))
			spoil(&want)
			got, s := compare(t, c, seen, gyro(seen)+mag(seen))
			if got != want || s != "" {
				t.Errorf("%s in mode %d: %+v, %X; want %+v", name, mode, got, s, want)
			}
			// An order sets the last two right, and clear the others.
			if got, s = compare(t, c, seen, order(9, api.OrderClear)); len(s) != 31 || got.Ack != 9 {
				t.Errorf("%s in mode %d, cleared: %+v, %X", name, mode, got, s)
			}
		}
	}
}
