package script_test

import (
	"fmt"
	"strings"
	"testing"

	"alidade/api"
	"alidade/frame"
	"alidade/script"
)

// A tick that isn't fresh, a kind that isn't the one, a count that is another: each shows in what is told.
func TestGyro(t *testing.T) {
	play(t, "gyro 5 0 0 0", "ok", "step 5", still, "plan", "0 1 0 0 0 0")
	play(t, "gyro 5 0 0 0", "ok", "step 505", still, "plan", "0 1 0 0 0 0")
	play(t, "gyro 5 0 0 0", "ok", "step 506", "0 0 0 0 1 0 0 0 0 0 0 0", "plan", "0 0 0 0 0 0")
	play(t, "gyro 6 0 0 0", "ok", "step 5", "0 0 0 0 1 0 0 0 0 0 0 0", "plan", "0 0 0 0 0 0")
	// A twentieth of a radian a second is 1638.4 counts: each of the three is the one that it seems.
	for place := range 3 {
		for count, calm := range map[int]int{1638: 1, 1639: 0, -1638: 1, -1639: 0, 30000: 0, -30000: 0} {
			counts := [3]int{}
			counts[place] = count
			play(t, fmt.Sprintf("gyro 5 %d %d %d", counts[0], counts[1], counts[2]), "ok", "step 5", still, "plan", fmt.Sprintf("0 %d 0 0 0 0", calm))
		}
	}
	// It may be written, but not be read.
	play(t, "gyro 5 30001 0 0", "ok", "gyro 5 0 -30001 0", "ok", "gyro 5 0 0 32767", "ok", "step 5", "0 0 0 0 3 0 0 0 0 0 0 0", "plan", "0 0 0 0 0 0")
}

func TestMag(t *testing.T) {
	play(t, "mag 0 2500 0 0", "ok", "step 0", still, "mag 1000 5500 0 0", "ok", "step 1000", "0 0 0 0 0 0 0 0 0 -2000 0 0")
	// By how much it changes in a second: a third of it counts at first, and a quarter of that is answered.
	for place := range 3 {
		first, second, told := [3]int{3000, 3000, 3000}, [3]int{3000, 3000, 3000}, [3]int{}
		second[place] += 120
		told[place] = -1000
		play(t,
			fmt.Sprintf("mag 0 %d %d %d", first[0], first[1], first[2]), "ok",
			"step 0", still,
			fmt.Sprintf("mag 1000 %d %d %d", second[0], second[1], second[2]), "ok",
			"step 1000", fmt.Sprintf("0 0 0 0 0 0 0 0 0 %d %d %d", told[0], told[1], told[2]),
		)
	}
	play(t, "mag 5 99 0 0", "ok", "mag 5 0 12001 0", "ok", "mag 4 -100 0 0", "ok", "mag 6 3000 0 0", "ok", "step 5", "0 0 0 0 3 0 0 0 0 0 0 0")
}

func TestSun(t *testing.T) {
	play(t, "sun 5 2000 0 0 0 0 0", "ok", "step 5", still)
	for place := range 6 {
		for count, rejects := range map[int]int{1999: 1, 2000: 0, 32768: 0, 65535: 0} {
			counts := [6]int{}
			counts[place] = count
			play(t, "sun 5 "+strings.Trim(fmt.Sprint(counts), "[]"), "ok", "step 5", fmt.Sprintf("0 0 0 0 %d 0 0 0 0 0 0 0", rejects))
		}
	}
	play(t, "sun 6 2000 0 0 0 0 0", "ok", "step 5", "0 0 0 0 1 0 0 0 0 0 0 0")
	play(t, "sun 5 2000 2000 3000 3000 4000 4000", "ok", "step 5", "0 0 0 0 1 0 0 0 0 0 0 0")
}

// The last count and the last tick that may be written, and those past them.
func TestFramesThatMayNotBeWritten(t *testing.T) {
	edges := []struct {
		form      string
		places    int
		good, bad []string
	}{
		{"gyro 5 %s", 3, []string{"-32768", "32767"}, []string{"-32769", "32768", "65535", "65536", "-65536", "99999", "4294967296", "-9223372036854775808", "9223372036854775807"}},
		{"mag 5 %s", 3, []string{"-32768", "32767"}, []string{"-32769", "32768", "65535", "65536", "-65536", "99999", "4294967296", "-9223372036854775808", "9223372036854775807"}},
		{"sun 5 %s", 6, []string{"0", "65535"}, []string{"-1", "65536", "65537", "-32768", "131072", "4294967296", "-9223372036854775808", "9223372036854775807"}},
	}
	for _, e := range edges {
		for place := range e.places {
			words := strings.Split(strings.Repeat("0", e.places), "")
			line := func(word string) string {
				words[place] = word
				return fmt.Sprintf(e.form, strings.Join(words, " "))
			}
			for _, word := range e.good {
				play(t, line(word), "ok")
			}
			for _, word := range e.bad {
				play(t, line(word), "error 1", "step 5", still)
			}
		}
	}
	for _, form := range []string{"gyro %d 0 0 0", "mag %d 0 0 0", "sun %d 0 0 0 0 0 0"} {
		for _, tick := range []int64{0, 1, api.MaxTick - 1, api.MaxTick} {
			play(t, fmt.Sprintf(form, tick), "ok")
		}
		for _, tick := range []int64{-1, api.MaxTick + 1, 1 << 48, 1<<48 + 5, -1 << 63, 1<<63 - 1} {
			play(t, fmt.Sprintf(form, tick), "error 1", "step 5", still)
		}
	}
}

func TestOrders(t *testing.T) {
	for seq := range 256 {
		play(t, fmt.Sprintf("order %d 1", seq), "ok", "step 5", fmt.Sprintf("3 0 %d 0 0 0 0 0 0 0 0 0", seq))
	}
	play(t,
		"order 1 1", "ok", "step 5", "3 0 1 0 0 0 0 0 0 0 0 0",
		"raw 00", "ok", "step 6", "3 0 1 0 1 0 0 0 0 0 0 0",
		"order 2 4", "ok", "step 7", "3 0 2 0 0 0 0 0 0 0 0 0",
		"order 3 2", "ok", "step 8", "0 0 3 0 0 0 0 0 0 0 0 0",
	)
	for _, words := range []string{
		"7 0", "7 3", "7 5", "7 -1", "7 16", "7 255", "7 256", "7 257", "7 258", "7 4294967297", "7 9223372036854775807", "7 -9223372036854775808", "7 -255",
		"-1 1", "256 1", "257 2", "-255 1", "4294967296 4", "9223372036854775807 1", "-9223372036854775808 1", "-1 3", "256 3", "256 0", "0 3", "255 3",
	} {
		play(t, "order "+words, "error 1", "step 5", still)
	}
}

func TestOrbits(t *testing.T) {
	const one = api.One
	type orbit [8]int64
	line := func(o orbit) string { return "orbit " + strings.Trim(fmt.Sprint(o), "[]") }
	const h = 1727108826179 // half of a half turn
	good := orbit{3, 7 * one, one / 100, one, 1, -1, one / 2, 77}
	for _, seq := range []int64{0, 1, 3, 128, 255} {
		good[0] = seq
		play(t, line(good), "ok", "step 5", fmt.Sprintf("0 0 %d 0 0 0 0 0 0 0 0 0", seq))
	}
	for place, bad := range map[int][]int64{
		0: {-1, 256, 259, 1 << 32, 1<<63 - 1, -1 << 63},
		1: {0, -7 * one, 6 * one, 10 * one, 1<<63 - 1, -1 << 63},
		2: {-1, one / 10, one, 1<<63 - 1, -1 << 63},
		3: {-1, 4 * h, 1<<63 - 1, -1 << 63},
		4: {1<<63 - 1, -1 << 63},
		5: {1<<63 - 1, -1 << 63},
		6: {1<<63 - 1, -1 << 63},
		7: {-1, api.MaxTick + 1, 1<<63 - 1, -1 << 63},
	} {
		for _, n := range bad {
			o := good
			o[place] = n
			play(t, line(o), "error 1", "step 5", still)
		}
	}
}

// The lines of sensors and orders stand for their frames' bytes: the data was worked out by hand.
func TestBytesOfFrames(t *testing.T) {
	const tick = "\x00\x01\x02\x03\x04\x05"
	hidden(t, "gyro 4328719365 258 -2 -32768", 1, tick+"\x01\x02\xff\xfe\x80\x00")
	hidden(t, "mag 4328719365 3 32767 -256", 3, tick+"\x00\x03\x7f\xff\xff\x00")
	hidden(t, "sun 4328719365 1 256 65535 0 32768 258", 2, tick+"\x00\x01\x01\x00\xff\xff\x00\x00\x80\x00\x01\x02")
	hidden(t, "order 200 4", 16, "\xc8\x04")
	hidden(t, "order 1 1", 16, "\x01\x01")
	hidden(t, "order 255 2", 16, "\xff\x02")
	hidden(t, "orbit 9 7696581394432 1 2 -3 4 -5 258", 16, "\x09\x03"+
		"\x00\x00\x07\x00\x00\x00\x00\x00"+"\x00\x00\x00\x00\x00\x00\x00\x01"+"\x00\x00\x00\x00\x00\x00\x00\x02"+"\xff\xff\xff\xff\xff\xff\xff\xfd"+
		"\x00\x00\x00\x00\x00\x00\x00\x04"+"\xff\xff\xff\xff\xff\xff\xff\xfb"+"\x00\x00\x00\x00\x00\x00\x01\x02")
}

// hidden shows that just a frame's bytes wait behind a line: laid as data into a frame of a foreign kind, whose sum stands for each of them, they aren't heard for themselves, and that frame alone is rejected. With another sum they are heard.
func hidden(t *testing.T, line string, kind int, data string) {
	t.Helper()
	bytes, ok := frame.Wrap(api.Frame{Kind: kind, Data: data})
	around, yes := frame.Wrap(api.Frame{Kind: 99, Data: bytes})
	if !ok || !yes {
		t.Fatal("no frame")
	}
	head, sum := around[:3], around[3+len(bytes):]
	foreign := "ok\nok\nok\n0 0 0 0 1 0 0 0 0 0 0 0\n"
	// No sensor's frame is fresh any more.
	const late = "\nstep 4328719866"
	if got := script.Run(raw(head) + "\n" + line + "\n" + raw(sum) + late); got != foreign {
		t.Errorf("%s: not the bytes %x:\n%s", line, bytes, got)
	}
	spoilt := string([]byte{sum[0], sum[1] ^ 1})
	if got := script.Run(raw(head) + "\n" + line + "\n" + raw(spoilt) + late); got == foreign {
		t.Errorf("%s: it isn't heard:\n%s", line, got)
	}
}
