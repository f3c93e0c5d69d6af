package script_test

import (
	"regexp"
	"strings"
	"sync"
	"testing"

	"alidade/script"
)

// within: may a text be answered line by line?
func within(text string) bool {
	return len(text) <= 65536 && strings.Count(text, "\n") <= 1024
}

// begins holds the answers to a text against those to it with a byte 10 and more behind it.
func begins(t *testing.T, text, more string) {
	t.Helper()
	if !within(text + "\n" + more) {
		t.Fatal("too long")
	}
	first, both := script.Run(text), script.Run(text+"\n"+more)
	if !strings.HasPrefix(both, first) {
		t.Fatalf("Run(%.3000q):\n%.3000swith %.3000q behind it:\n%.3000s", text, first, more, both)
	}
	if n := said(more); strings.Count(both, "\n")-strings.Count(first, "\n") != n {
		t.Fatalf("Run(%.3000q) with %.3000q behind it has not %d answers more:\n%.3000s", text, more, n, both)
	}
}

// said: how many lines of a text have an answer.
func said(text string) int {
	n := 0
	for _, line := range strings.Split(text, "\n") {
		if bare := strings.Trim(line, " "); bare != "" && bare[0] != '#' {
			n++
		}
	}
	return n
}

func TestAnswersDontHangOnWhatStandsBehind(t *testing.T) {
	thrown := dice(193)
	for range 150 {
		begins(t, thrown.script(), thrown.script())
	}
	for range 10000 {
		begins(t, thrown.noise(), thrown.noise())
	}
	for _, more := range []string{"", " ", "\n", "#", "frob", "step", "step 5", "step 157766400000", "raw zz", "order 7 1\nstep 157766400000", zeros(2001), strings.Repeat("x", 40000), strings.Repeat("\n", 100)} {
		for range 10 {
			begins(t, thrown.script(), more)
			begins(t, thrown.noise(), more)
		}
		begins(t, "", more)
	}
}

// At each byte 10 of a text: what stands ahead of it is answered as if it were all.
func TestAnswersOfEachBeginning(t *testing.T) {
	thrown := dice(194)
	for range 12 {
		text := thrown.script()
		whole := script.Run(text)
		for i := range len(text) {
			if text[i] != '\n' {
				continue
			}
			part := script.Run(text[:i])
			if part != script.Run(text[:i+1]) || !strings.HasPrefix(whole, part) || strings.Count(part, "\n") != said(text[:i]) {
				t.Fatalf("Run(%.3000q):\n%.3000s", text[:i], part)
			}
		}
	}
}

// A step that comes later changes nothing of what was told, and a text begins anew with the zero craft.
func TestEachTextBeginsAnew(t *testing.T) {
	for range 3 {
		play(t, "order 7 1", "ok", zeros(1993), "ok", "raw 00", "error 4")
		play(t, "order 7 1", "ok", "step 157766400000", "3 0 7 0 0 0 0 0 0 0 0 0")
		play(t, "raw a51002", "ok", "step 5", still)
		play(t, "plan", "0 0 0 0 0 0", "guess", "0 0 0 0 0 0 0", "step 0", still)
	}
}

// Blanks, lines without words and remarks play no part.
func TestWhatPlaysNoPart(t *testing.T) {
	thrown := dice(195)
	for n := range 3000 {
		text := thrown.noise()
		if n%30 == 0 {
			text = thrown.script()
		}
		var lines []string
		for _, line := range strings.Split(text, "\n") {
			for thrown.of(3) {
				lines = append(lines, thrown.silent())
			}
			lines = append(lines, thrown.spaced(line))
		}
		for thrown.of(2) {
			lines = append(lines, thrown.silent())
		}
		among := strings.Join(lines, "\n")
		if !within(among) {
			t.Fatal("too long")
		}
		if got, want := script.Run(among), script.Run(text); got != want {
			t.Fatalf("Run(%.3000q):\n%.3000sof Run(%.3000q):\n%.3000s", among, got, text, want)
		}
		if got, want := script.Run(bare(among)), script.Run(text); got != want {
			t.Fatalf("Run(%.3000q):\n%.3000sof Run(%.3000q):\n%.3000s", bare(among), got, text, want)
		}
	}
}

// bare: a text without all that plays no part.
func bare(text string) string {
	var lines []string
	for _, line := range strings.Split(text, "\n") {
		line = strings.Trim(regexp.MustCompile(` +`).ReplaceAllString(line, " "), " ")
		if line != "" && line[0] != '#' {
			lines = append(lines, line)
		}
	}
	return strings.Join(lines, "\n")
}

// Whatever comes, there is an answer to each line that asks for one, of a form that the chapter knows.
func TestAnswersHaveTheirForm(t *testing.T) {
	form := regexp.MustCompile(`^(ok|none|error 1|error 4|(0|-?[1-9][0-9]*)( (0|-?[1-9][0-9]*)){5}(( (0|-?[1-9][0-9]*))|( (0|-?[1-9][0-9]*)){6})?)$`)
	thrown := dice(196)
	for n := range 10000 {
		text := thrown.noise()
		if n%100 == 0 {
			text = thrown.script()
		}
		got := script.Run(text)
		if strings.Count(got, "\n") != said(text) || got != "" && !strings.HasSuffix(got, "\n") {
			t.Fatalf("Run(%.3000q): %.3000q", text, got)
		}
		for _, answer := range strings.Split(strings.TrimSuffix(got, "\n"), "\n") {
			if got != "" && !form.MatchString(answer) {
				t.Fatalf("Run(%.3000q) answers %q", text, answer)
			}
		}
	}
}

// All bytes, in texts of all sizes up to the limits and past them.
func TestAnyBytes(t *testing.T) {
	thrown := dice(197)
	for range 200 {
		s := make([]byte, thrown.below(66000))
		few := "\n  #-05afstepraw \x00\xff"
		for i := range s {
			s[i] = byte(thrown.next())
			if thrown.of(2) {
				s[i] = few[thrown.below(len(few))]
			}
		}
		compare(t, string(s))
		compare(t, strings.ReplaceAll(string(s), "\n", "x"))
	}
}

// What is answered hangs on the text alone, even while others run.
func TestOneAnswer(t *testing.T) {
	thrown := dice(198)
	var texts, want []string
	for range 16 {
		text := thrown.script()
		texts = append(texts, text)
		want = append(want, script.Run(text))
	}
	var all sync.WaitGroup
	for i := range texts {
		all.Go(func() {
			for range 3 {
				if got := script.Run(texts[i]); got != want[i] {
					t.Errorf("Run(%.3000q):\n%.3000swant\n%.3000s", texts[i], got, want[i])
				}
			}
		})
	}
	all.Wait()
}
