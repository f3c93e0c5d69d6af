package script_test

import (
	"fmt"
	"strings"
	"testing"

	"alidade/api"
	"alidade/field"
	"alidade/fixed"
	"alidade/frame"
	"alidade/orbit"
	"alidade/script"
	"alidade/sun"
)

// The document's ten examples of the whole, as far as a script shows them.

// Elements that are right; by them, a tick at which the sun is seen and stands well from the field, and the first one of a shade.
const (
	around = "orbit 1 7696581394432 1099511627 1099511627776 549755813888 0 0 0"
	seen   = 2400000
	dusk   = 180522
)

// sky: what the sensors say of a body whose axes are the sky's, and which doesn't turn.
func sky(t *testing.T, tick int64) (gyro, cells, mag string) {
	t.Helper()
	f := &fixed.Flow{}
	const one = api.One
	place := orbit.Place(f, api.Orbit{A: 7 * one, E: one / 1000, I: one, Node: one / 2}, tick)
	light, b := sun.Direction(f, tick), field.Sky(f, place, tick)
	cells, mag = fmt.Sprint("sun ", tick), fmt.Sprint("mag ", tick)
	for i := range 3 {
		n := f.Part(light[i], 30000, one)
		cells += fmt.Sprint(" ", max(n, 0), " ", max(-n, 0))
		mag += fmt.Sprint(" ", f.Part(b[i], 100, one))
	}
	if f.Bad {
		t.Fatal("no sky")
	}
	return fmt.Sprint("gyro ", tick, " 0 0 0"), cells, mag
}

// comesToFine: the lines by which a craft comes to Fine, half a second from step to step, the last one at the tick.
func comesToFine(t *testing.T, tick int64) []string {
	t.Helper()
	lines := []string{around}
	for ago := int64(2000); ago >= 0; ago -= 500 {
		lines = append(lines, all(t, tick-ago)...)
	}
	return lines
}

// all: a step with what all sensors say.
func all(t *testing.T, tick int64) []string {
	gyro, cells, mag := sky(t, tick)
	return []string{gyro, cells, mag, fmt.Sprint("step ", tick)}
}

// last: the last so many answers to lines.
func last(t *testing.T, many int, lines ...string) []string {
	t.Helper()
	answers := strings.Split(script.Run(strings.Join(lines, "\n")), "\n")
	if len(answers) <= many {
		t.Fatalf("%q: %q", lines, answers)
	}
	return answers[len(answers)-1-many : len(answers)-1]
}

// upright: is what is told that a craft is in Fine without faults, and stands as the sky's axes do, but for a few counts?
func upright(told string) bool {
	var n [12]int
	if _, err := fmt.Sscan(told, &n[0], &n[1], &n[2], &n[3], &n[4], &n[5], &n[6], &n[7], &n[8], &n[9], &n[10], &n[11]); err != nil {
		return false
	}
	small := func(n int) bool { return -60 < n && n < 60 }
	return [5]int(n[:5]) == [5]int{2, 0, 1, 0, 0} && small(n[5]) && small(n[6]) && small(n[7]) && small(n[8]-16384) && [3]int(n[9:]) == [3]int{}
}

func TestExample1AStepWithoutBytes(t *testing.T) {
	play(t, "step 0", still, "plan", "0 0 0 0 0 0", "guess", "0 0 0 0 0 0 0")
}

func TestExample2ThreeStepsWithASlowGyro(t *testing.T) {
	play(t,
		"gyro 1000 1 2 3", "ok", "step 1000", still, "plan", "0 1 0 0 0 0",
		"gyro 1500 1 2 3", "ok", "step 1500", still, "plan", "0 2 0 0 0 0",
		"gyro 2000 1 2 3", "ok", "step 2000", "1 0 0 0 0 0 0 0 0 0 0 0", "plan", "1 0 0 0 0 0",
	)
}

func TestExample3TwoMoreWithSunAndField(t *testing.T) {
	lines := comesToFine(t, seen)
	for steps, want := range []string{"0 0 1 0 0 0 0 0 0", "0 0 1 0 0 0 0 0 0", "1 0 1 0 0 0 0 0 0", "1 0 1 0 0 0 0 0 0"} {
		if got := last(t, 1, lines[:5+4*steps]...); !strings.HasPrefix(got[0], want) {
			t.Errorf("step %d: %q", steps, got)
		}
	}
	got := last(t, 3, append(lines, "plan", "guess")...)
	if !upright(got[0]) || got[1] != "2 0 0 0 0 0" || got[2] == "0 0 0 0 0 0 0" {
		t.Errorf("%q", got)
	}
}

func TestExample4AGap(t *testing.T) {
	lines := comesToFine(t, seen)
	if got := last(t, 1, append(lines, fmt.Sprint("step ", seen+10000))...); !upright(got[0]) {
		t.Errorf("10000: %q", got)
	}
	got := last(t, 3, append(lines, fmt.Sprint("step ", seen+10001), "plan", "guess")...)
	if strings.Join(got, "|") != "1 1 1 0 0 0 0 0 0 0 0 0|1 0 0 0 0 1|0 0 0 0 0 0 0" {
		t.Errorf("10001: %q", got)
	}
}

func TestExample5WithoutTheGyro(t *testing.T) {
	lines := comesToFine(t, seen)
	for i := int64(1); i <= 3; i++ {
		tick := seen + 500*i
		_, cells, mag := sky(t, tick)
		lines = append(lines, cells, mag, fmt.Sprint("step ", tick), "plan")
		got := last(t, 2, lines...)
		if i < 3 && (!upright(got[0]) || got[1] != fmt.Sprintf("2 0 0 0 %d 0", i)) {
			t.Errorf("%d: %q", i, got)
		}
		if i == 3 && strings.Join(got, "|") != "1 2 1 0 0 0 0 0 0 0 0 0|1 0 0 0 0 2" {
			t.Errorf("the third: %q", got)
		}
	}
}

func TestExample6BehindTheEarth(t *testing.T) {
	lines := comesToFine(t, dusk-1)
	for i := int64(1); i <= 20; i++ {
		tick := dusk - 1 + 500*i
		// What is seen there plays no part: a sun that would lead the filter astray doesn't.
		lines = append(lines, fmt.Sprint("gyro ", tick, " 0 0 0"), fmt.Sprint("sun ", tick, " 0 30000 0 0 0 0"), fmt.Sprint("mag ", tick, " 0 0 3000"), fmt.Sprint("step ", tick), "plan")
		if got := last(t, 2, lines...); !upright(got[0]) || got[1] != "2 0 0 0 0 0" {
			t.Fatalf("%d: %q", i, got)
		}
	}
}

func TestExample7NonsenseOfTheMagnetometer(t *testing.T) {
	lines := comesToFine(t, seen)
	for i := int64(1); i <= 5; i++ {
		tick := seen + 500*i
		gyro, cells, mag := sky(t, tick)
		var n [4]int
		if _, err := fmt.Sscanf(mag, "mag %d %d %d %d", &n[0], &n[1], &n[2], &n[3]); err != nil {
			t.Fatal(err)
		}
		lines = append(lines, gyro, cells, fmt.Sprint("mag ", tick, " ", n[3], " ", -n[1], " ", -n[2]), fmt.Sprint("step ", tick), "plan")
		got := last(t, 2, lines...)
		if i < 5 && (!upright(got[0]) || got[1] != fmt.Sprintf("2 0 0 %d 0 0", i)) {
			t.Errorf("%d: %q", i, got)
		}
		if i == 5 && strings.Join(got, "|") != "1 8 1 0 0 0 0 0 0 0 0 0|1 0 0 0 0 8" {
			t.Errorf("the fifth: %q", got)
		}
	}
}

// A line of an orbit that is too low isn't as told; its frame may come all the same.
func TestExample8AnOrbitTooLow(t *testing.T) {
	data := "\x09\x03\x00\x00\x06" + strings.Repeat("\x00", 53)
	s, ok := frame.Wrap(api.Frame{Kind: api.KindOrder, Data: data})
	if !ok || len(s) != 63 {
		t.Fatal("no frame")
	}
	play(t, "orbit 9 6597069766656 0 0 0 0 0 0", "error 1", raw(s), "ok", "step 5", "0 0 9 3 1 0 0 0 0 0 0 0")
}

func TestExample9SafeAndAwake(t *testing.T) {
	coarse := []string{"gyro 1000 0 0 0", "step 1000", "gyro 1500 0 0 0", "step 1500", "gyro 2000 0 0 0", "step 2000"}
	for name, lines := range map[string][]string{
		"the zero craft": nil,
		"Detumble":       {"step 7"},
		"Coarse":         coarse,
		"Fine":           comesToFine(t, seen),
		"Safe":           {"order 3 1", "step 7"},
	} {
		got := last(t, 9, append(lines,
			"order 200 1", "step 2400500", "plan", "guess",
			"gyro 2401000 0 0 0", "step 2401000",
			"order 201 2", "step 2401500", "plan")...)
		want := "ok|3 0 200 0 0 0 0 0 0 0 0 0|3 0 0 0 0 0|0 0 0 0 0 0 0|ok|3 0 200 0 0 0 0 0 0 0 0 0|ok|0 0 201 0 0"
		if all := strings.Join(got, "|"); !strings.HasPrefix(all, want) || !strings.HasSuffix(all, "|0 0 0 0 0 0") {
			t.Errorf("%s: %q", name, got)
		}
	}
}

func TestExample10InTwoParts(t *testing.T) {
	s, ok := frame.Wrap(api.Frame{Kind: api.KindGyro, Data: "\x00\x00\x00\x00\x03\xe8\x00\x00\x00\x00\x00\x00"})
	if !ok {
		t.Fatal("no frame")
	}
	for cut := 1; cut < len(s); cut++ {
		play(t, raw(s[:cut]), "ok", "step 1000", still, "plan", "0 0 0 0 0 0", raw(s[cut:]), "ok", "step 1500", still, "plan", "0 1 0 0 0 0")
		play(t, raw(s[:cut]), "ok", "step 1000", still, raw(s[cut:]), "ok", "step 1501", "0 0 0 0 1 0 0 0 0 0 0 0", "plan", "0 0 0 0 0 0")
	}
}
