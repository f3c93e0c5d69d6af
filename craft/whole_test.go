package craft_test

import (
	"testing"

	"alidade/api"
	"alidade/craft"
	"alidade/fixed"
)

// The chapter's own example, and the first one of the whole.
func TestExample1ZeroCraft(t *testing.T) {
	for _, tick := range []int64{0, 5, api.MaxTick} {
		c, s := craft.Step(api.Craft{}, tick, "")
		if c != (api.Craft{On: true, Tick: tick}) || c.Plan.Mode != api.Detumble || len(s) != 31 {
			t.Errorf("%d: %+v, %X", tick, c, s)
		}
		if x, ok := tells(s); !ok || x != (api.Tell{Tick: tick}) {
			t.Errorf("%d: %+v, %v", tick, x, ok)
		}
	}
}

func TestExample2SlowGyro(t *testing.T) {
	var c api.Craft
	for i, want := range []api.Plan{{Calm: 1}, {Calm: 2}, {Mode: api.Coarse}} {
		tick := int64(1000 + 500*i)
		if c = step(t, c, tick, says(api.KindGyro, tick, 500, -600, 700)); c.Plan != want {
			t.Errorf("step %d: %+v", i, c.Plan)
		}
	}
}

func TestExample3ElementsSunAndField(t *testing.T) {
	b := still(seen)
	var c api.Craft
	for range 3 {
		c = step(t, c, b.tick, b.gyro())
		b = b.later(500)
	}
	c = step(t, c, b.tick, order(9, api.OrderOrbit)+b.all())
	if c.Plan != (api.Plan{Mode: api.Coarse, Good: 1}) {
		t.Errorf("the first: %+v", c.Plan)
	}
	b = b.later(500)
	next, s := craft.Step(c, b.tick, b.all())
	x, ok := tells(s)
	if !ok || x.Mode != api.Fine || next.Plan != (api.Plan{Mode: api.Fine}) {
		t.Fatalf("the second: %+v, %+v, %v", next.Plan, x, ok)
	}
	for i, n := range x.Q {
		if want := (&fixed.Flow{}).Part(next.Guess.Q[i], 1, one>>14); int64(n) != want {
			t.Errorf("part %d: %d; want %d", i, n, want)
		}
		if d := int64(n) - b.q[i]>>26; d > 100 || d < -100 {
			t.Errorf("part %d: %d is far from what is true", i, n)
		}
	}
}

func TestExample4Gap(t *testing.T) {
	c, b := comesToFine(t, slowly(seen))
	b = b.later(10001)
	if got := step(t, c, b.tick, b.all()); got.Plan != (api.Plan{Mode: api.Coarse, Faults: 1}) || got.Guess != (api.Guess{}) {
		t.Errorf("%+v", got)
	}
}

func TestExample5NoGyro(t *testing.T) {
	c, b := comesToFine(t, slowly(seen))
	for i, want := range []api.Plan{{Mode: api.Fine, Lost: 1}, {Mode: api.Fine, Lost: 2}, {Mode: api.Coarse, Faults: 2}} {
		b = b.later(500)
		if c = step(t, c, b.tick, b.cells()+b.mag()); c.Plan != want {
			t.Errorf("step %d: %+v", i, c.Plan)
		}
	}
}

// By the gyro alone: in the shade cells that see some light play no part either.
func TestExample6BehindTheEarth(t *testing.T) {
	c, b := comesToFine(t, slowly(dusk-5000))
	for b.tick < dusk-500 {
		b = b.later(500)
		c = step(t, c, b.tick, b.all())
	}
	for i := range 60 {
		b = b.later(500)
		want := moved(t, c.Guess, b.turns(), 500)
		bytes := b.gyro() + b.mag()
		if i%2 == 0 {
			bytes += cells(b.tick)
		}
		c = step(t, c, b.tick, bytes)
		if c.Plan != (api.Plan{Mode: api.Fine}) || c.Guess != want {
			t.Fatalf("step %d: %+v, %+v; want %+v", i, c.Plan, c.Guess, want)
		}
		if off(c.Guess.Q, b.q) > one/16 {
			t.Fatalf("step %d: %v is far from %v", i, c.Guess.Q, b.q)
		}
	}
}

func TestExample7Nonsense(t *testing.T) {
	c, b := comesToFine(t, slowly(seen))
	for i := range 5 {
		b = b.later(500)
		v := reading(b.mag()).V
		nonsense := says(api.KindMag, b.tick, rounded(-v[1], 100), rounded(v[2], 100), rounded(v[0], 100))
		c = step(t, c, b.tick, b.gyro()+b.cells()+nonsense)
		want := api.Plan{Mode: api.Fine, Miss: i + 1}
		if i == 4 {
			want = api.Plan{Mode: api.Coarse, Faults: 8}
		}
		if c.Plan != want {
			t.Errorf("step %d: %+v", i, c.Plan)
		}
	}
}

func TestExample8TooLow(t *testing.T) {
	low := around()
	low.A = 6 * one
	c, b := comesToFine(t, slowly(seen))
	b = b.later(500)
	got := step(t, c, b.tick, b.all()+wrapped(api.KindOrder, elements(low)))
	if got.Ack != 5 || got.Err != 3 || got.Rejects != 1 || got.Orbit != around() || got.Plan != (api.Plan{Mode: api.Fine}) {
		t.Errorf("%+v", got)
	}
}

func TestExample9SafeAndAwake(t *testing.T) {
	fine, _ := comesToFine(t, slowly(seen))
	for _, c := range []api.Craft{{}, in(api.Detumble, seen), in(api.Coarse, seen), fine, in(api.Safe, seen)} {
		c.Plan.Faults = 5
		c = step(t, c, seen+3000, order(1, api.OrderSafe))
		if c.Plan != (api.Plan{Mode: api.Safe, Faults: 5}) || c.Ack != 1 {
			t.Errorf("safe: %+v", c.Plan)
		}
		for i := range 10 {
			c = step(t, c, seen+3500+int64(500*i), gyro(seen+3500+int64(500*i)))
		}
		if c.Plan != (api.Plan{Mode: api.Safe, Faults: 5}) {
			t.Errorf("it stays: %+v", c.Plan)
		}
		c = step(t, c, seen+9000, order(2, api.OrderWake))
		if c.Plan != (api.Plan{}) || c.Ack != 2 {
			t.Errorf("awake: %+v", c.Plan)
		}
	}
}

func TestExample10InTwoParts(t *testing.T) {
	s := gyro(1000)
	for cut := 1; cut < len(s); cut++ {
		first := step(t, api.Craft{}, 1000, s[:cut])
		if first.Plan.Calm != 0 || first.Rejects != 0 {
			t.Errorf("cut at %d, the first: %+v", cut, first)
		}
		if got := step(t, first, 1500, s[cut:]); got.Plan.Calm != 1 || got.Rejects != 0 {
			t.Errorf("cut at %d, fresh: %+v", cut, got)
		}
		if got := step(t, first, 1501, s[cut:]); got.Plan.Calm != 0 || got.Rejects != 1 {
			t.Errorf("cut at %d, stale: %+v", cut, got)
		}
	}
}
