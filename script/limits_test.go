package script_test

import (
	"strings"
	"testing"

	"alidade/api"
	"alidade/script"
)

// held: Run of a long text.
func held(t *testing.T, name, text, want string) {
	t.Helper()
	if got := script.Run(text); got != want {
		t.Errorf("%s (%d bytes, %d of them 10): %.300q; want %.300q", name, len(text), strings.Count(text, "\n"), got, want)
	}
}

func TestLimitsAreThoseOfTheDocument(t *testing.T) {
	if api.MaxScript != 65536 || api.MaxRows != 1024 {
		t.Error(api.MaxScript, api.MaxRows)
	}
}

func TestTextsOfManyBytes(t *testing.T) {
	const answer = still + "\n"
	for _, l := range []struct{ name, ahead, sign, behind, want string }{
		{"blanks ahead", "", " ", "step 5", answer},
		{"blanks behind", "step 5", " ", "", answer},
		{"blanks between", "step", " ", "5", answer},
		{"a remark ahead", "#", "x", "\nstep 5", answer},
		{"a remark behind", "step 5\n#", "x", "", answer},
		{"a byte 10 at the end", "step 5\n#", "x", "\n", answer},
		{"one word", "", "x", "", "error 1\n"},
		{"digits", "step ", "1", "", "error 1\n"},
		{"bytes", "raw 00", "0", "", "error 4\n"},
	} {
		fill := func(size int) string {
			return l.ahead + strings.Repeat(l.sign, size-len(l.ahead)-len(l.behind)) + l.behind
		}
		held(t, l.name, fill(65535), map[bool]string{true: "error 1\n", false: l.want}[l.name == "bytes"])
		held(t, l.name, fill(65536), l.want)
		for _, size := range []int{65537, 65538, 70000, 200000} {
			held(t, l.name, fill(size), "error 4\n")
		}
	}
}

func TestTextsOfManyLines(t *testing.T) {
	rows := func(line string, n int) string { return strings.Repeat(line+"\n", n) }
	for _, l := range []struct{ line, answer string }{
		{"", ""}, {" ", ""}, {"#", ""}, {"plan", "0 0 0 0 0 0\n"}, {"guess", "0 0 0 0 0 0 0\n"}, {"x", "error 1\n"}, {"raw -", "ok\n"}, {"step -1", "none\n"},
	} {
		for _, n := range []int{1023, 1024} {
			want := strings.Repeat(l.answer, n)
			held(t, l.line, rows(l.line, n), want)
			// The last line has no byte 10 behind it.
			held(t, l.line, rows(l.line, n)+l.line, want+l.answer)
			held(t, l.line, rows(l.line, n)+"step 5", want+still+"\n")
		}
		for _, n := range []int{1025, 1026, 2000} {
			held(t, l.line, rows(l.line, n), "error 4\n")
			held(t, l.line, rows(l.line, n-1)+l.line+"\n", "error 4\n")
			held(t, l.line, rows(l.line, n)+"step 5", "error 4\n")
			held(t, l.line, "step 5\n"+rows(l.line, n-1), "error 4\n")
		}
	}
}

// Both limits at once, and each past its end alone.
func TestTextsThatAreFull(t *testing.T) {
	full := strings.Repeat("step 5"+strings.Repeat(" ", 57)+"\n", 1024)
	want := still + "\n" + strings.Repeat("none\n", 1023)
	held(t, "full", full, want)
	held(t, "full, without the last byte 10", full[:65535], want)
	held(t, "one byte more", full+" ", "error 4\n")
	held(t, "one line more", full+"\n", "error 4\n")
	held(t, "one blank is a byte 10", full[:65534]+"\n\n", "error 4\n")
	held(t, "all of it bytes 10", strings.Repeat("\n", 65536), "error 4\n")
	held(t, "bytes 13 are none", strings.Repeat("\r", 65536), "error 1\n")
}
