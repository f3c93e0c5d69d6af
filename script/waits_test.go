package script_test

import (
	"fmt"
	"strings"
	"testing"

	"alidade/api"
	"alidade/frame"
)

// safe: what is told of a craft that was told to be safe by order 7 and rejected something.
const safe = "3 0 7 0 1 0 0 0 0 0 0 0"

// zeros: a line of so many bytes 0.
func zeros(n int) string { return raw(strings.Repeat("\x00", n)) }

func TestHowManyBytesMayWait(t *testing.T) {
	const passed = "0 0 0 0 1 0 0 0 0 0 0 0"
	play(t, zeros(1999), "ok", "raw 00", "ok", "raw 00", "error 4", "step 5", passed)
	play(t, zeros(2000), "ok", "raw 00", "error 4", "raw -", "ok", "step 5", passed)
	play(t, zeros(2001), "error 4", "step 5", still)
	play(t, zeros(30000), "error 4", "raw -", "ok", "step 5", still)
	play(t, zeros(1999), "ok", "raw 0000", "error 4", "raw 00", "ok", "raw 0000", "error 4", "step 5", passed)
	play(t, zeros(1), "ok", zeros(2000), "error 4", zeros(1999), "ok", zeros(1), "error 4", "step 5", passed)
	play(t, zeros(1000), "ok", zeros(1000), "ok", zeros(1), "error 4", zeros(1000), "error 4", zeros(2001), "error 4", "raw -", "ok", "step 5", passed)
}

// Frames of 17, 23, 7 and 63 bytes: the last one that has room, and the first that hasn't.
func TestHowManyFramesMayWait(t *testing.T) {
	for line, size := range map[string]int{
		"gyro 5 0 0 0":                      17,
		"mag 5 3000 0 0":                    17,
		"sun 5 9999 0 0 0 0 0":              23,
		"order 7 1":                         7,
		"orbit 7 7696581394432 0 0 0 0 0 0": 63,
	} {
		play(t, zeros(2000-size), "ok", line, "ok", "raw 00", "error 4", line, "error 4")
		play(t, zeros(2001-size), "ok", line, "error 4", zeros(size-1), "ok", "raw 00", "error 4", "step 5", "0 0 0 0 1 0 0 0 0 0 0 0", "plan", "0 0 0 0 0 0")
		play(t, zeros(2000), "ok", line, "error 4", "step 5", "0 0 0 0 1 0 0 0 0 0 0 0", line, "ok")
	}
}

// A line that is too much leaves the others waiting, and what is less may come behind it.
func TestTooMuchLeavesTheOthers(t *testing.T) {
	play(t, "order 7 1", "ok", zeros(1993), "ok", "raw 00", "error 4", "order 8 2", "error 4", "gyro 5 0 0 0", "error 4", "step 5", safe, "plan", "3 0 0 0 0 0")
	play(t, "order 7 1", "ok", zeros(1994), "error 4", zeros(1993), "ok", "step 5", safe)
	play(t, zeros(1986), "ok", "orbit 9 7696581394432 0 0 0 0 0 0", "error 4", "sun 5 9999 0 0 0 0 0", "error 4", "order 7 1", "ok", "order 7 4", "ok", "raw -", "ok", "raw 00", "error 4", "step 5", "3 0 7 0 0 0 0 0 0 0 0 0")
}

// Of two answers that apply the first one is given.
func TestWrongAheadOfTooMuch(t *testing.T) {
	play(t, zeros(2000), "ok", "raw", "error 1", "raw 0", "error 1", "raw zz", "error 1", zeros(3000)+"0", "error 1", zeros(3000)+"zz", "error 1", zeros(3000)+" 00", "error 1",
		"gyro 5 0 0", "error 1", "gyro 5 0 0 99999", "error 1", "mag -1 0 0 0", "error 1", "sun 5 0 0 0 0 0 -1", "error 1", "order 7 3", "error 1", "order 256 1", "error 1",
		"orbit 7 1 0 0 0 0 0 0", "error 1", "frob", "error 1", "raw 00", "error 4", "plan", "0 0 0 0 0 0", "guess", "0 0 0 0 0 0 0", "step 5", "0 0 0 0 1 0 0 0 0 0 0 0")
	play(t, zeros(3000)+"0", "error 1", zeros(3000), "error 4", "step 5", still)
}

// None wait behind a step, be it told or not.
func TestNoneWaitBehindAStep(t *testing.T) {
	play(t, zeros(2000), "ok", "step 5", "0 0 0 0 1 0 0 0 0 0 0 0", zeros(2000), "ok", "step 6", "0 0 0 0 2 0 0 0 0 0 0 0", "step 7", "0 0 0 0 2 0 0 0 0 0 0 0")
	play(t, "order 7 1", "ok", "step 5", "3 0 7 0 0 0 0 0 0 0 0 0", "order 8 2", "ok", "step 6", "0 0 8 0 0 0 0 0 0 0 0 0", "step 7", "0 0 8 0 0 0 0 0 0 0 0 0")
	for _, tick := range []string{"-1", "157766400001", "9223372036854775807", "-9223372036854775808"} {
		play(t, "order 7 1", "ok", "step "+tick, "none", "step 5", still, "plan", "0 0 0 0 0 0")
		play(t, zeros(2000), "ok", "step "+tick, "none", zeros(2000), "ok", "raw 00", "error 4", "step "+tick, "none", "step 5", still)
	}
	for _, tick := range []string{"5", "4", "0"} {
		play(t, "step 5", still, "order 7 1", "ok", "step "+tick, "none", "step 6", still)
		play(t, "step 5", still, zeros(2000), "ok", "step "+tick, "none", zeros(2000), "ok", "step 6", "0 0 0 0 1 0 0 0 0 0 0 0")
	}
	// A line that is none of a step leaves them.
	for _, line := range []string{"step", "step x", "step 5 5", "step -0", "Step 5", "plan", "guess", "# step 5"} {
		want := map[string]string{"plan": "0 0 0 0 0 0", "guess": "0 0 0 0 0 0 0", "# step 5": ""}
		answer, ok := want[line]
		if !ok {
			answer = "error 1"
		}
		play(t, "order 7 1", "ok", line, answer, "step 5", "3 0 7 0 0 0 0 0 0 0 0 0")
	}
}

// Those that a step left of a frame aren't among those that wait: as many may come as ever.
func TestWhatAStepLeftDoesntWait(t *testing.T) {
	play(t, "raw a51002", "ok", "step 5", still, "raw 070178b1", "ok", zeros(1996), "ok", "raw 00", "error 4", "step 6", safe)
	// Where a step isn't told nothing is left of it, either.
	play(t, "raw a51002", "ok", "step -1", "none", "raw 070178b1", "ok", "step 6", "0 0 0 0 1 0 0 0 0 0 0 0")
	play(t, "raw a51002", "ok", "step 5", still, "raw 07", "ok", "step 5", "none", "raw 070178b1", "ok", "step 6", "3 0 7 0 0 0 0 0 0 0 0 0")
}

// Bytes wait one behind the other: a frame in as many parts as it has bytes is a frame.
func TestBytesWaitBehindTheOthers(t *testing.T) {
	s, ok := frame.Wrap(api.Frame{Kind: api.KindOrder, Data: "\x07\x01"})
	if !ok {
		t.Fatal("no frame")
	}
	for cut := range len(s) + 1 {
		play(t, raw(s[:cut]), "ok", raw(s[cut:]), "ok", "step 5", "3 0 7 0 0 0 0 0 0 0 0 0")
	}
	var lines []string
	for _, b := range []byte(s) {
		lines = append(lines, fmt.Sprintf("raw %02x", b), "ok")
	}
	play(t, append(lines, "step 5", "3 0 7 0 0 0 0 0 0 0 0 0")...)
	// Of two orders the last one counts.
	play(t, "order 7 1", "ok", "order 8 2", "ok", "step 5", "0 0 8 0 0 0 0 0 0 0 0 0")
	play(t, "order 8 2", "ok", "order 7 1", "ok", "step 5", "3 0 7 0 0 0 0 0 0 0 0 0")
	play(t, "order 8 2", "ok", "raw "+fmt.Sprintf("%x", s), "ok", "step 5", "3 0 7 0 0 0 0 0 0 0 0 0")
	play(t, "gyro 5 4000 0 0", "ok", "gyro 5 0 0 0", "ok", "step 5", still, "plan", "0 1 0 0 0 0")
	play(t, "gyro 5 0 0 0", "ok", "gyro 5 4000 0 0", "ok", "step 5", still, "plan", "0 0 0 0 0 0")
}
