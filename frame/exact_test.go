package frame_test

import (
	"math/big"
	"slices"
	"strings"
	"testing"

	"alidade/api"
	"alidade/frame"
)

// The chapter's rules, worked another way than the program's, and with nothing of it.

// sumExact: the bytes are one long polynomial over 0 and 1, with FFFF put into its highest 16 bits, and with 16 bits more; what remains of it by x^16 + x^12 + x^5 + 1.
func sumExact(s string) uint16 {
	n := new(big.Int).SetBytes([]byte(s + "\x00\x00"))
	n.Xor(n, new(big.Int).Lsh(big.NewInt(0xFFFF), uint(8*len(s))))
	for n.BitLen() > 16 {
		n.Xor(n, new(big.Int).Lsh(big.NewInt(0x11021), uint(n.BitLen()-17)))
	}
	return uint16(n.Uint64())
}

// sumBytes: the sum as it stands behind a frame's data.
func sumBytes(body string) string {
	sum := sumExact(body)
	return string([]byte{byte(sum / 256), byte(sum % 256)})
}

func wrapExact(x api.Frame) string {
	body := string([]byte{byte(x.Kind), byte(len(x.Data))}) + x.Data
	return a5 + body + sumBytes(body)
}

// scanExact takes the chapter's cases one by one, at each place.
func scanExact(s string) (found []api.Frame, left string, over int) {
	for place := 0; place < len(s); {
		after := s[place+1:]
		if s[place] != 0xA5 {
			over, place = over+1, place+1
			continue
		}
		if len(after) < 2 {
			return found, s[place:], over
		}
		length := int(after[1])
		if length > 64 {
			over, place = over+1, place+1
			continue
		}
		if len(after[2:]) < length+2 {
			return found, s[place:], over
		}
		x := api.Frame{Kind: int(after[0]), Data: after[2 : 2+length]}
		if !strings.HasPrefix(s[place:], wrapExact(x)) {
			over, place = over+1, place+1
			continue
		}
		found, place = append(found, x), place+length+5
	}
	return found, "", over
}

// source answers integers, always the same ones.
type source struct {
	state uint64
}

func (s *source) word() uint64 {
	s.state ^= s.state << 13
	s.state ^= s.state >> 7
	s.state ^= s.state << 17
	return s.state
}

func (s *source) below(n int) int { return int(s.word() >> 1 % uint64(n)) }

// text answers n bytes, many of which are such as frames are made of.
func (s *source) text(n int) string {
	b := make([]byte, n)
	for i := range b {
		switch s.below(6) {
		case 0:
			b[i] = 0xA5
		case 1:
			b[i] = byte(s.below(4))
		case 2:
			b[i] = byte(62 + s.below(6))
		default:
			b[i] = byte(s.word() >> 13)
		}
	}
	return string(b)
}

// length: of data: often short, often as long as may be.
func (s *source) length() int {
	switch s.below(4) {
	case 0:
		return s.below(65)
	case 1:
		return 64 - s.below(2)
	default:
		return s.below(6)
	}
}

func (s *source) frame() api.Frame {
	return api.Frame{Kind: s.below(256), Data: s.text(s.length())}
}

// nested: a frame that has frames, or parts of them, in its data.
func (s *source) nested() api.Frame {
	data := s.text(s.below(4)) + wrapExact(api.Frame{Kind: s.below(256), Data: s.text(s.below(8))}) + s.text(s.below(4))
	if s.below(2) == 0 {
		data += wrapExact(api.Frame{Kind: s.below(256), Data: s.text(s.below(3))})
	}
	return api.Frame{Kind: s.below(256), Data: data}
}

// spoilt answers bytes of which one was turned to another.
func (s *source) spoilt(told string) string {
	b := []byte(told)
	b[s.below(len(b))] ^= byte(1 + s.below(255))
	return string(b)
}

// piece: a frame, or what may stand between frames.
func (s *source) piece() string {
	switch s.below(9) {
	case 0:
		return s.text(s.below(8))
	case 1:
		return s.spoilt(wrapExact(s.frame()))
	case 2:
		return s.spoilt(wrapExact(s.nested()))
	case 3:
		told := wrapExact(s.nested())
		return told[:s.below(len(told))]
	case 4:
		return a5 + string([]byte{byte(s.below(256)), byte(65 + s.below(191))})
	case 5:
		return strings.Repeat(a5, s.below(4))
	case 6:
		return wrapExact(s.nested())
	default:
		return wrapExact(s.frame())
	}
}

// stream: up to 8 pieces.
func (s *source) stream() string {
	var b strings.Builder
	for range 1 + s.below(8) {
		b.WriteString(s.piece())
	}
	return b.String()
}

func TestSumAgainstPolynomials(t *testing.T) {
	if sumExact("123456789") != 0x29B1 {
		t.Fatalf("%04X", sumExact("123456789"))
	}
	check := func(s string) {
		if got, want := frame.Sum(s), sumExact(s); got != want {
			t.Fatalf("Sum(%x): %04X, not %04X", s, got, want)
		}
	}
	for first := range 256 {
		check(string([]byte{byte(first)}))
		for second := range 256 {
			check(string([]byte{byte(first), byte(second)}))
		}
	}
	s := &source{88172645463325252}
	for n := range 300 {
		check(s.text(n))
		check(strings.Repeat("\x00", n))
		check(strings.Repeat("\xff", n))
	}
}

func TestWrapAndOpenAgainstTheChapter(t *testing.T) {
	s := &source{362436069}
	for kind := range 256 {
		for length := range 65 {
			x := api.Frame{Kind: kind, Data: s.text(length)}
			want := wrapExact(x)
			if got, ok := frame.Wrap(x); !ok || got != want {
				t.Fatalf("Wrap(%d, %x): %x, %v; want %x", x.Kind, x.Data, got, ok, want)
			}
			if got, ok := frame.Open(want); !ok || got != x {
				t.Fatalf("Open(%x): %x, %v", want, got, ok)
			}
		}
	}
}

// Open finds a frame where Scan by the chapter finds it, and nothing else.
func TestOpenAgainstTheChapter(t *testing.T) {
	s := &source{521288629}
	opened := 0
	for range 30000 {
		told := s.piece()
		found, left, over := scanExact(told)
		want := len(found) == 1 && left == "" && over == 0
		got, ok := frame.Open(told)
		if ok != want || ok && got != found[0] || !ok && got != (api.Frame{}) {
			t.Fatalf("Open(%x): %x, %v", told, got, ok)
		}
		if ok {
			opened++
		}
	}
	if opened < 5000 || opened > 25000 {
		t.Errorf("%d frames", opened)
	}
}

func TestScanAgainstTheChapter(t *testing.T) {
	s := &source{123456789}
	frames, lefts, overs := 0, 0, 0
	for range 10000 {
		told := s.stream()
		found, left, over := frame.Scan(told)
		wantFound, wantLeft, wantOver := scanExact(told)
		if !slices.Equal(found, wantFound) || left != wantLeft || over != wantOver {
			t.Fatalf("Scan(%x): %x, %x, %d; want %x, %x, %d", told, found, left, over, wantFound, wantLeft, wantOver)
		}
		frames += len(found)
		lefts += len(left)
		overs += over
	}
	if frames < 10000 || lefts < 10000 || overs < 10000 {
		t.Errorf("%d frames, %d bytes left, %d passed over", frames, lefts, overs)
	}
}
