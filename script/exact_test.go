package script_test

import (
	"encoding/hex"
	"fmt"
	"math/big"
	"regexp"
	"strings"
	"testing"

	"alidade/api"
	"alidade/craft"
	"alidade/frame"
	"alidade/orders"
	"alidade/script"
	"alidade/sensor"
	"alidade/telem"
)

// The chapter's rules, told another way: whole lines by patterns, numbers as integers of any size.

const number = ` +(0|-?[1-9][0-9]*)`

var (
	unsaid  = regexp.MustCompile(`^ *(#.*)?$`)
	rawLine = regexp.MustCompile(`^ *raw +(-|([0-9a-f][0-9a-f])+) *$`)
	shapes  = []*regexp.Regexp{
		regexp.MustCompile(`^ *(gyro)` + strings.Repeat(number, 4) + ` *$`),
		regexp.MustCompile(`^ *(mag)` + strings.Repeat(number, 4) + ` *$`),
		regexp.MustCompile(`^ *(sun)` + strings.Repeat(number, 7) + ` *$`),
		regexp.MustCompile(`^ *(order)` + strings.Repeat(number, 2) + ` *$`),
		regexp.MustCompile(`^ *(orbit)` + strings.Repeat(number, 8) + ` *$`),
		regexp.MustCompile(`^ *(step)` + number + ` *$`),
		regexp.MustCompile(`^ *(plan) *$`),
		regexp.MustCompile(`^ *(guess) *$`),
	}
)

// parsed: a line's first word and its numbers; "", if it isn't as told.
func parsed(line string) (string, []int64) {
	for _, shape := range shapes {
		found := shape.FindStringSubmatch(line)
		if found == nil {
			continue
		}
		var list []int64
		for _, word := range found[2:] {
			n, ok := new(big.Int).SetString(word, 10)
			if !ok || !n.IsInt64() {
				return "", nil
			}
			list = append(list, n.Int64())
		}
		return found[1], list
	}
	return "", nil
}

// model: what the chapter has lines work on.
type model struct {
	c    api.Craft
	wait string
}

func (m *model) answer(line string) string {
	if found := rawLine.FindStringSubmatch(line); found != nil {
		bytes, _ := hex.DecodeString(strings.TrimPrefix(found[1], "-"))
		return m.add(string(bytes))
	}
	word, n := parsed(line)
	switch word {
	case "gyro", "mag", "sun":
		var counts [6]int
		for i := range n[1:] {
			counts[i] = int(n[i+1])
		}
		return m.frame(sensor.Write(map[string]int{"gyro": 1, "sun": 2, "mag": 3}[word], n[0], counts))
	case "order":
		if n[1] == 3 {
			return "error 1"
		}
		return m.frame(orders.Write(api.Order{Seq: int(n[0]), Code: int(n[1])}))
	case "orbit":
		return m.frame(orders.Write(api.Order{Seq: int(n[0]), Code: 3, Orbit: api.Orbit{A: n[1], E: n[2], I: n[3], Node: n[4], Peri: n[5], M: n[6], At: n[7]}}))
	case "step":
		return m.step(n[0])
	case "plan":
		return strings.Trim(fmt.Sprint(m.c.Plan), "{}")
	case "guess":
		return strings.Trim(fmt.Sprint(m.c.Guess.Q), "[]") + " " + strings.Trim(fmt.Sprint(m.c.Guess.Bias), "[]")
	}
	return "error 1"
}

func (m *model) frame(x api.Frame, ok bool) string {
	if !ok {
		return "error 1"
	}
	s, _ := frame.Wrap(x)
	return m.add(s)
}

func (m *model) add(s string) string {
	if len(m.wait+s) > 2000 {
		return "error 4"
	}
	m.wait += s
	return "ok"
}

func (m *model) step(tick int64) string {
	c, told := craft.Step(m.c, tick, m.wait)
	m.c, m.wait = c, ""
	if told == "" {
		return "none"
	}
	x, _ := frame.Open(told)
	y, _ := telem.Read(x)
	y.Tick = 0
	return strings.TrimPrefix(strings.NewReplacer("{", "", "}", "", "[", "", "]", "").Replace(fmt.Sprint(y)), "0 ")
}

// modelled: what the chapter asks Run to answer.
func modelled(text string) string {
	if len(text) > 65536 || strings.Count(text, "\n") > 1024 {
		return "error 4\n"
	}
	var m model
	answers := ""
	for _, line := range regexp.MustCompile(`\n`).Split(text, -1) {
		if !unsaid.MatchString(line) {
			answers += m.answer(line) + "\n"
		}
	}
	return answers
}

// compare holds Run against the model, and answers what both say.
func compare(t *testing.T, text string) string {
	t.Helper()
	got, want := script.Run(text), modelled(text)
	if got != want {
		t.Fatalf("Run(%.3000q):\n%.3000swant\n%.3000s", text, got, want)
	}
	return got
}

// The model answers what was worked out outside, too.
func TestModelAgainstSamples(t *testing.T) {
	for _, s := range samples() {
		text, want := "", ""
		for i := 0; i < len(s.pairs); i += 2 {
			text += s.pairs[i] + "\n"
			want += s.pairs[i+1] + "\n"
		}
		if got := modelled(text); got != want {
			t.Errorf("%s: %s", s.name, got)
		}
	}
}

// Texts of thrown lines: mostly such as the craft makes something of, and spoilt ones among them.
func TestThrownTexts(t *testing.T) {
	thrown := dice(191)
	kinds := map[string]int{}
	for range 400 {
		text := thrown.script()
		for _, a := range strings.Split(compare(t, text), "\n") {
			kinds[kind(a)]++
		}
	}
	for _, k := range []string{"ok", "none", "error 1", "error 4", "step 0", "step 1", "step 2", "step 3", "plan 0", "plan 1", "plan 2", "plan 3", "guess", "no guess"} {
		if kinds[k] < 30 {
			t.Errorf("%s: only %d times", k, kinds[k])
		}
	}
}

// kind: what sort of answer it is, of what mode.
func kind(answer string) string {
	switch words := strings.Fields(answer); len(words) {
	case 12:
		return "step " + words[0]
	case 6:
		return "plan " + words[0]
	case 7:
		if answer == "0 0 0 0 0 0 0" {
			return "no guess"
		}
		return "guess"
	}
	return answer
}

func TestThrownNoise(t *testing.T) {
	thrown := dice(192)
	for range 20000 {
		compare(t, thrown.noise())
	}
}

// A line alone, spoilt in one place by each sign.
func TestLinesWithOneSpoiltSign(t *testing.T) {
	for _, r := range rows() {
		for place := range len(r.line) + 1 {
			for sign := range 256 {
				s := string([]byte{byte(sign)})
				compare(t, r.line[:place]+s+r.line[place:]+"\nstep 6\nplan")
				if place < len(r.line) {
					compare(t, r.line[:place]+s+r.line[place+1:]+"\nstep 6\nplan")
				}
			}
		}
	}
}
