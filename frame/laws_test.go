package frame_test

import (
	"slices"
	"strings"
	"testing"
	"unsafe"

	"alidade/api"
	"alidade/frame"
)

// scanned: what Scan answers.
type scanned struct {
	found []api.Frame
	left  string
	over  int
}

func scan(s string) scanned {
	found, left, over := frame.Scan(s)
	return scanned{found, left, over}
}

// then answers what two parts give together: what the first one leaves stands ahead of the second one.
func (a scanned) then(second string) scanned {
	b := scan(a.left + second)
	return scanned{slices.Concat(a.found, b.found), b.left, a.over + b.over}
}

func (a scanned) same(b scanned) bool {
	return slices.Equal(a.found, b.found) && a.left == b.left && a.over == b.over
}

// tokens: of these each short row is tried as a stream.
func tokens() []string {
	return []string{
		a5, "\x00", "\x01", "\x40", "\x41", "\x1d", "\x0f",
		"\xa5\x00\x00\x1d\x0f",
		"\xa5\x01\x00\x2e\x3f",
		"\xa5\x01\x05\xa5\x00\x00\x1d\x0f\x87\x5d",
		"\xa5\x01\x05\xa5\x00\x00\x1d\x0f\x87\x5c",
		"\xa5\x00\x02\x6d\x12\xa5\xa5",
	}
}

// rows answers all streams of up to n tokens.
func rows(n int) []string {
	all, last := []string{""}, []string{""}
	for range n {
		var next []string
		for _, row := range last {
			for _, token := range tokens() {
				next = append(next, row+token)
			}
		}
		all, last = append(all, next...), next
	}
	return all
}

// mixed: the streams that are told with their answers, and many more.
func mixed(t *testing.T) []string {
	var all []string
	for _, s := range streams(t) {
		all = append(all, bytesOf(t, s.told))
	}
	s := &source{2463534242}
	for range 1000 {
		all = append(all, s.stream())
	}
	return append(all, rows(4)...)
}

// P11.2, the first sentence: wherever a stream is cut, nothing else is found, left or passed over.
func TestAStreamMayBeCutInTwo(t *testing.T) {
	for _, s := range mixed(t) {
		whole := scan(s)
		for place := range len(s) + 1 {
			if parts := scan(s[:place]).then(s[place:]); !parts.same(whole) {
				t.Fatalf("%x, cut at %d: %x; whole: %x", s, place, parts, whole)
			}
		}
	}
}

// So it may be cut in many, even byte by byte.
func TestAStreamMayBeCutInMany(t *testing.T) {
	r := &source{675248}
	for _, s := range mixed(t) {
		whole := scan(s)
		var bytewise, parts scanned
		for place := range len(s) {
			bytewise = bytewise.then(s[place : place+1])
		}
		for rest := s; rest != ""; {
			n := 1 + r.below(len(rest))
			parts, rest = parts.then(rest[:n]), rest[n:]
		}
		if !bytewise.same(whole) || !parts.same(whole) {
			t.Fatalf("%x: %x, %x; whole: %x", s, bytewise, parts, whole)
		}
	}
}

// P11.2, the second sentence.
func TestAFrameWithAByteTurnedIsNone(t *testing.T) {
	r := &source{88675123}
	for length := range most + 1 {
		for _, x := range []api.Frame{
			{Data: strings.Repeat("\x00", length)},
			{Kind: 255, Data: strings.Repeat("\xff", length)},
			{Kind: 165, Data: strings.Repeat(a5, length)},
			{Kind: r.below(256), Data: r.text(length)},
		} {
			s, ok := frame.Wrap(x)
			if !ok {
				t.Fatalf("%x is no frame", x)
			}
			turnEachByte(t, x, s)
		}
	}
}

func turnEachByte(t *testing.T, x api.Frame, s string) {
	t.Helper()
	for place := range len(s) {
		b := []byte(s)
		for turn := 1; turn < 256; turn++ {
			b[place] = s[place] ^ byte(turn)
			turned := string(b)
			if got, ok := frame.Open(turned); ok || got != (api.Frame{}) {
				t.Fatalf("%x: %x, %v", turned, got, ok)
			}
			// Shorter ones may be in it.
			for _, y := range scan(turned).found {
				if len(y.Data) >= len(x.Data) {
					t.Fatalf("%x: %x", turned, y)
				}
			}
		}
	}
}

// Each byte of a stream is a frame's, or is left, or was passed over.
func TestEachByteCountsOnce(t *testing.T) {
	for _, s := range mixed(t) {
		got := scan(s)
		count := got.over + len(got.left)
		for _, x := range got.found {
			told, ok := frame.Wrap(x)
			if !ok || !strings.Contains(s, told) {
				t.Fatalf("%x: %x isn't in it", s, x)
			}
			count += len(told)
		}
		if count != len(s) || !strings.HasSuffix(s, got.left) {
			t.Fatalf("%x: %x", s, got)
		}
	}
}

// What is left is less than a frame, and begins as one: it stays as it is till more comes.
func TestWhatIsLeftStandsStill(t *testing.T) {
	for _, s := range mixed(t) {
		left := scan(s).left
		if len(left) > most+4 || left != "" && left[:1] != a5 {
			t.Fatalf("%x: %x is left", s, left)
		}
		if again := scan(left); !again.same(scanned{left: left}) {
			t.Fatalf("%x: %x", left, again)
		}
	}
}

func TestFramesComeBackInTheirOrder(t *testing.T) {
	r := &source{314159265}
	for range 500 {
		var want []api.Frame
		var s strings.Builder
		over := 0
		for range r.below(12) {
			between := strings.ReplaceAll(r.text(r.below(5)), a5, "")
			x := r.frame()
			told, ok := frame.Wrap(x)
			if !ok {
				t.Fatalf("%x is no frame", x)
			}
			s.WriteString(between + told)
			over += len(between)
			want = append(want, x)
		}
		if got := scan(s.String()); !got.same(scanned{want, "", over}) {
			t.Fatalf("%x: %x; want %x", s.String(), got, want)
		}
	}
}

// R7: the same again, whatever was asked in between.
func TestTheSameAgain(t *testing.T) {
	all := mixed(t)[:1000]
	var first []scanned
	for _, s := range all {
		first = append(first, scan(s))
	}
	for i, s := range slices.Backward(all) {
		if again := scan(s); !again.same(first[i]) {
			t.Fatalf("%x: %x, then %x", s, first[i], again)
		}
	}
}

// shares: do two texts lie in the same memory, even in part?
func shares(a, b string) bool {
	if a == "" || b == "" {
		return false
	}
	x, y := uintptr(unsafe.Pointer(unsafe.StringData(a))), uintptr(unsafe.Pointer(unsafe.StringData(b)))
	return x < y+uintptr(len(b)) && y < x+uintptr(len(a))
}

// R4: what is answered is new memory.
func TestAnswersAreNewMemory(t *testing.T) {
	for _, p := range pairs(t) {
		data, told := strings.Clone(p.x.Data), strings.Clone(p.s)
		if s, _ := frame.Wrap(api.Frame{Kind: p.x.Kind, Data: data}); shares(s, data) {
			t.Errorf("Wrap(%x) keeps its data", data)
		}
		if x, _ := frame.Open(told); shares(x.Data, told) {
			t.Errorf("Open(%x) keeps its bytes", told)
		}
		s := told + told + told[:len(told)-1]
		got := scan(s)
		if len(got.found) != 2 || got.left != told[:len(told)-1] {
			t.Fatalf("%x: %x", s, got)
		}
		if shares(got.left, s) || shares(got.found[0].Data, s) || shares(got.found[1].Data, s) {
			t.Errorf("Scan(%x) keeps its bytes", s)
		}
	}
	// Where all of a stream is left, too.
	begun := strings.Clone("\xa5\x01\x00\x2e")
	if left := scan(begun).left; left != begun || shares(left, begun) {
		t.Errorf("Scan(%x) leaves %x, or keeps its bytes", begun, left)
	}
}
