package script_test

import (
	"fmt"
	"strings"
)

// dice: numbers that look thrown, and are the same each time.
type dice uint64

func (d *dice) next() uint64 {
	*d += 0x9E3779B97F4A7C15
	z := uint64(*d)
	z = (z ^ z>>30) * 0xBF58476D1CE4E5B9
	z = (z ^ z>>27) * 0x94D049BB133111EB
	return z ^ z>>31
}

func (d *dice) below(n int) int { return int(d.next() % uint64(n)) }

// of: one time of so many.
func (d *dice) of(n int) bool { return d.below(n) == 0 }

// one: of several texts.
func (d *dice) one(texts ...string) string { return texts[d.below(len(texts))] }

// number: a word that is one, of any size: small ones are as frequent as great ones.
func (d *dice) number() string { return fmt.Sprint(int64(d.next()) >> d.below(64)) }

// blanks: from so many on.
func (d *dice) blanks(least int) string {
	if !d.of(6) {
		return strings.Repeat(" ", least)
	}
	return strings.Repeat(" ", least+d.below(4))
}

// line: one of the table, with thrown words.
func (d *dice) line() string {
	many := map[string]int{"gyro": 4, "mag": 4, "sun": 7, "order": 2, "orbit": 8, "step": 1}
	word := d.one("raw", "gyro", "mag", "sun", "order", "orbit", "step", "plan", "guess", "frob", "#")
	line := word
	if word == "raw" {
		return line + " " + d.bytes()
	}
	for range many[word] {
		line += " " + d.one(d.number(), "0", fmt.Sprint(d.below(300)), fmt.Sprint(d.below(5)), fmt.Sprint(d.below(60000)-30000))
	}
	if d.of(10) {
		line += " " + d.number()
	}
	return line
}

// bytes: a word that stands for some, or for none.
func (d *dice) bytes() string {
	if d.of(5) {
		return "-"
	}
	s := make([]byte, 1+d.below(70))
	if d.of(20) {
		s = make([]byte, 1+d.below(2100))
	}
	for i := range s {
		s[i] = byte(d.next())
		if d.of(3) {
			s[i] = 0xA5
		}
	}
	return fmt.Sprintf("%x", s)
}

// spoilt: a line with a sign more, less, or another.
func (d *dice) spoilt(line string) string {
	place := d.below(len(line) + 1)
	sign := d.one("0", "1", "9", "a", "f", "g", "A", "-", "+", "#", ".", "\t", "\r", "\x00", "\xff", " ", "é")
	switch {
	case d.of(2) || place == len(line):
		return line[:place] + sign + line[place:]
	case d.of(2):
		return line[:place] + line[place+1:]
	}
	return line[:place] + sign + line[place+1:]
}

// spaced: the same words, with blanks around them.
func (d *dice) spaced(line string) string {
	s := d.blanks(0)
	for i, w := range strings.Split(line, " ") {
		if i > 0 {
			s += d.blanks(1)
		}
		s += w
	}
	return s + d.blanks(0)
}

// silent: a line that has no answer.
func (d *dice) silent() string {
	return d.one("", " ", "    ", "#", "# step 5", " #raw zz", "#\t\xff", "   # order 1 1", "##")
}

// script: the lines of a sample, of which some are missing, doubled or spoilt, with others among them.
func (d *dice) script() string {
	all := samples()
	s := all[d.below(len(all))]
	wild := 5 + d.below(200)
	var lines []string
	for i := 0; i < len(s.pairs); i += 2 {
		line := s.pairs[i]
		switch {
		case d.of(2 * wild):
			continue
		case d.of(2 * wild):
			lines = append(lines, line)
		case d.of(2 * wild):
			line = d.spoilt(line)
		case d.of(wild):
			lines = append(lines, d.line())
		case d.of(wild):
			lines = append(lines, d.silent())
		case d.of(2 * wild):
			lines = append(lines, d.one("order 5 1", "order 6 2", "order 7 4", "plan", "guess", "step -1", "step 5", zeros(1900+d.below(150))))
		}
		lines = append(lines, d.spaced(line))
	}
	return strings.Join(lines, "\n") + d.one("", "\n", "\n\n", " ")
}

// noise: few lines, of which hardly one is as told.
func (d *dice) noise() string {
	var lines []string
	for range d.below(12) {
		line := d.line()
		for range d.below(3) {
			line = d.spoilt(line)
		}
		lines = append(lines, d.spaced(line))
		if d.of(3) {
			lines = append(lines, fmt.Sprint("step ", d.below(2000)))
		}
		if d.of(6) {
			s := make([]byte, d.below(20))
			for i := range s {
				s[i] = byte(d.next())
			}
			lines = append(lines, string(s))
		}
	}
	return strings.Join(lines, "\n") + d.one("", "\n")
}
