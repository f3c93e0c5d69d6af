package script_test

import (
	"strings"
	"testing"

	"alidade/script"
)

// still: what is told in Detumble where nothing was heard.
const still = "0 0 0 0 0 0 0 0 0 0 0 0"

// play holds the answers to a script against those that are wanted: a line and its answer, one pair behind the other; "" for a line that has none. What is answered to the first lines alone is to be the beginning of it.
func play(t *testing.T, pairs ...string) {
	t.Helper()
	if len(pairs)%2 != 0 {
		t.Fatal("not in pairs")
	}
	var lines []string
	want := ""
	for i := 0; i < len(pairs); i += 2 {
		lines = append(lines, pairs[i])
		if pairs[i+1] != "" {
			want += pairs[i+1] + "\n"
		}
		text := strings.Join(lines, "\n")
		for _, end := range []string{"", "\n"} {
			if got := script.Run(text + end); got != want {
				t.Errorf("Run(%.2000q):\n%swant\n%s", text+end, got, want)
				return
			}
		}
	}
}

func TestExamples(t *testing.T) {
	play(t, "step 5", still)
	play(t, "order 7 1", "ok", "step 500", "3 0 7 0 0 0 0 0 0 0 0 0")
}

func TestTextsWithoutALine(t *testing.T) {
	for _, text := range []string{"", "\n", "\n\n\n", " ", "    ", " \n  \n\n   ", "#", "# step 5", "#\n#\n"} {
		if got := script.Run(text); got != "" {
			t.Errorf("Run(%q): %q", text, got)
		}
	}
}

// A byte 10 at the end begins a line without words.
func TestTheEndOfAText(t *testing.T) {
	for _, text := range []string{"step 5", "step 5\n", "\nstep 5", "\n\nstep 5\n\n\n", "step 5\n ", "step 5\n#"} {
		if got := script.Run(text); got != still+"\n" {
			t.Errorf("Run(%q): %q", text, got)
		}
	}
	if got := script.Run("step 5\nstep 5\n"); got != still+"\nnone\n" {
		t.Errorf("two lines: %q", got)
	}
}

func TestLinesWithoutAnAnswer(t *testing.T) {
	for _, line := range []string{"", " ", "      ", "#", "##", "# x", "#x", "#step 5", "# step 5", "  #", "   # raw zz", "#\t", "#\x00\xff", "# error 1"} {
		play(t, line, "")
		play(t, "order 7 1", "ok", line, "", "step 5", "3 0 7 0 0 0 0 0 0 0 0 0", line, "", "plan", "3 0 0 0 0 0")
	}
	// A # that doesn't begin the first word is a sign as any other.
	for _, line := range []string{"step 5 #", "step #", "step 5 # x", "step# 5", "x# step 5", "raw #", "plan #", "\t# step 5", "5#"} {
		play(t, line, "error 1", "step 5", still)
	}
}

func TestBlanks(t *testing.T) {
	for _, line := range []string{"step 5", " step 5", "step 5 ", "step  5", "  step   5   ", strings.Repeat(" ", 60000) + "step 5", "step" + strings.Repeat(" ", 60000) + "5", "step 5" + strings.Repeat(" ", 60000)} {
		play(t, line, still, "step 5", "none")
	}
	play(t,
		"   raw      -   ", "ok",
		"  order  7    1 ", "ok",
		" step    5      ", "3 0 7 0 0 0 0 0 0 0 0 0",
		"      plan      ", "3 0 0 0 0 0",
		" guess          ", "0 0 0 0 0 0 0",
		" gyro 5  1 2  3 ", "ok",
		"mag   5 1   2 3 ", "ok",
		"sun 5 1 2 3 4 5   6", "ok",
		" orbit 3 7696581394432  0 0 0 0 0 0", "ok",
	)
}

// Bytes 32 alone stand between words: all others are signs of a word.
func TestOtherSignsAreNoBlanks(t *testing.T) {
	for _, sign := range []string{"\t", "\r", "\v", "\f", "\x00", "\x1f", "\x21", "\u00a0", "\u2003", "\u0085", "\xa0", "\x85", "\ufeff"} {
		for _, line := range []string{"step" + sign + "5", "step 5" + sign, sign + "step 5", sign, "plan" + sign, "step " + sign + "5", "step 5 " + sign, "raw" + sign + "-", "raw -" + sign} {
			play(t, line, "error 1", "step 5", still)
		}
	}
}

func TestOtherFirstWords(t *testing.T) {
	for _, word := range []string{
		"frob", "Step", "STEP", "steps", "ste", "s", "tick", "rawx", "Raw", "ra", "GYRO", "gyros", "gyr", "mags", "Mag", "suns", "Sun",
		"orders", "Order", "orde", "orbits", "Orbit", "orbi", "plans", "Plan", "pla", "guesses", "Guess", "gues", "-", "0", "5", "ok", "none", "error", "\xff", "é", "\x00",
	} {
		for _, rest := range []string{"", " 5", " -", " 00", " 7 1", " 5 1 2 3", " 5 1 2 3 4 5 6", " 3 7696581394432 0 0 0 0 0 0"} {
			play(t, word+rest, "error 1", "step 5", still)
		}
	}
}

// row: a line of the chapter's table that is as told, and its answer, at first.
type row struct{ line, answer string }

func rows() []row {
	return []row{
		{"raw 00", "ok"},
		{"gyro 5 1 2 3", "ok"},
		{"mag 5 1 2 3", "ok"},
		{"sun 5 1 2 3 4 5 6", "ok"},
		{"order 7 1", "ok"},
		{"orbit 3 7696581394432 0 0 0 0 0 0", "ok"},
		{"step 5", still},
		{"plan", "0 0 0 0 0 0"},
		{"guess", "0 0 0 0 0 0 0"},
	}
}

func TestWordsMissingAndOver(t *testing.T) {
	for _, r := range rows() {
		play(t, r.line, r.answer)
		words := strings.Split(r.line, " ")
		for many := 1; many < len(words); many++ {
			play(t, strings.Join(words[:many], " "), "error 1", "step 5", still)
		}
		for _, over := range []string{" 0", " 1", " -", " 00", " x", " 0 0", " plan", " " + r.line, " #"} {
			play(t, r.line+over, "error 1", "step 5", still, "plan", "0 0 0 0 0 0")
		}
	}
	// Of the sun six counts are asked for, of the others three.
	play(t, "gyro 5 1 2 3 4 5 6", "error 1", "mag 5 1 2 3 4 5 6", "error 1", "sun 5 1 2 3", "error 1")
	play(t, "order 3 3 7696581394432 0 0 0 0 0 0", "error 1", "orbit 3 3 7696581394432 0 0 0 0 0 0", "error 1", "step 5", still)
}

// Lines that aren't as told change nothing: neither the craft nor what waits.
func TestWrongLinesChangeNothing(t *testing.T) {
	wrong := []string{
		"frob", "raw", "raw 0", "raw zz", "gyro 5 0 0", "gyro 5 0 0 99999", "gyro -1 0 0 0", "mag 5 0 0 x", "sun 5 0 0 0", "sun 5 0 0 0 0 0 -1",
		"order 8", "order 8 3", "order 8 0", "order 256 2", "orbit 8 2 3 4 5 6 7 8", "orbit 8 3", "step", "step x", "step 6 6", "plan 1", "guess 1",
	}
	var pairs []string
	for _, line := range wrong {
		pairs = append(pairs, line, "error 1")
	}
	all := append([]string{"gyro 5 0 0 0", "ok", "order 7 4", "ok", "raw 6162", "ok"}, pairs...)
	all = append(all, "step 5", "0 0 7 0 0 0 0 0 0 0 0 0", "plan", "0 1 0 0 0 0")
	all = append(all, pairs...)
	all = append(all, "step 6", "0 0 7 0 0 0 0 0 0 0 0 0", "plan", "0 0 0 0 0 0")
	play(t, all...)
}
