package script_test

import (
	"fmt"
	"math/big"
	"strings"
	"testing"

	"alidade/api"
	"alidade/frame"
	"alidade/script"
)

// noNumbers: words that are none.
func noNumbers() []string {
	return []string{
		"-0", "00", "01", "007", "-00", "-01", "-007", "-", "--", "--1", "+", "+0", "+5", "+-5", "-+5", "5-", "5+", "- 5",
		"0x5", "0b1", "0o7", "1e3", "5.", "5.0", ".5", "1_0", "1,000", "5a", "a", "x", "#", "5\t", "\t5", "5\r", "\x005", "5\x00",
		"９", "٣", "−5", "½", "\xff", "5\xff", "/", ":", "1/", "1:", "inf", "NaN", "ok",
		"9223372036854775808", "-9223372036854775809", "9223372036854775817", "-9223372036854775818", "10000000000000000000",
		"18446744073709551615", "18446744073709551616", "18446744073709551621", "-18446744073709551611", "92233720368547758070",
		"00000000000000000005", strings.Repeat("0", 100), strings.Repeat("9", 100), "-" + strings.Repeat("9", 100), strings.Repeat("1", 1000),
	}
}

func TestNumbersThatAreNone(t *testing.T) {
	for _, word := range noNumbers() {
		play(t, "step "+word, "error 1", "step 5", still)
	}
}

// In each place of each row that asks for a number.
func TestNumbersThatAreNoneInEachPlace(t *testing.T) {
	for _, r := range rows() {
		if strings.HasPrefix(r.line, "raw") {
			continue
		}
		words := strings.Split(r.line, " ")
		for place := 1; place < len(words); place++ {
			for _, no := range noNumbers() {
				spoilt := strings.Split(r.line, " ")
				spoilt[place] = no
				play(t, strings.Join(spoilt, " "), "error 1", "step 5", still)
			}
		}
	}
}

// That it is just this tick, is shown by those beside it.
func TestTicks(t *testing.T) {
	for _, n := range []int64{0, 1, 9, 10, 11, 99, 100, 101, 2147483647, 2147483648, 4294967295, 4294967296, 4294967301, 12345678901, 99999999999, 100000000000, 157766399999} {
		play(t,
			fmt.Sprint("step ", n), still,
			fmt.Sprint("step ", n), "none",
			fmt.Sprint("step ", n-1), "none",
			fmt.Sprint("step ", n+1), still,
			fmt.Sprint("step ", n), "none",
		)
	}
	play(t, "step 157766400000", still, "step 157766400001", "none", "step 157766400000", "none")
}

// Numbers, but no ticks.
func TestTicksThatArentRight(t *testing.T) {
	for _, word := range []string{
		"-1", "-5", "-10", "157766400001", "1000000000000", "281474976710656", "281474976710661", "-281474976710651",
		"4611686018427387904", "9223372036854775806", "9223372036854775807", "-9223372036854775807", "-9223372036854775808",
	} {
		play(t, "step "+word, "none", "step 5", still, "step "+word, "none", "plan", "0 0 0 0 0 0")
		play(t, "gyro "+word+" 0 0 0", "error 1", "mag "+word+" 0 0 0", "error 1", "sun "+word+" 0 0 0 0 0 0", "error 1", "step 5", still)
	}
}

// The range of int64 at its edges: a step takes each of its integers, even where nothing is told then.
func TestTheEdgesOfTheRange(t *testing.T) {
	least, greatest := big.NewInt(-1<<63), new(big.Int).SetUint64(1<<63-1)
	for d := int64(-1000); d <= 1000; d++ {
		above := new(big.Int).Add(greatest, big.NewInt(d))
		below := new(big.Int).Add(least, big.NewInt(d))
		for _, n := range []*big.Int{above, below} {
			want := "error 1\n"
			if n.IsInt64() {
				want = "none\n"
			}
			if got := script.Run("step " + n.String()); got != want {
				t.Errorf("step %v: %q", n, got)
			}
		}
	}
}

// raw: a line of bytes.
func raw(bytes string) string {
	if bytes == "" {
		return "raw -"
	}
	return fmt.Sprintf("raw %x", bytes)
}

func TestBytesThatAreNone(t *testing.T) {
	for _, word := range []string{
		"0", "a", "f", "000", "00000", "a5a", "0g", "g0", "0G", "zz", "0A", "A0", "AA", "aA", "0F", "F0", "A5", "--", "---", "-0", "0-", "00-", "-00", "0-0", "00--",
		"+0", "0+", "0x", "0x00", "x0", "/0", "0/", ":0", "0:", "`0", "0`", "@0", "0@", "g", "G", "0\t", "\t0", "00\r", "0\x00", "\xff\xff", "é", "éé", "０", "#0", "00,00", "'00'",
	} {
		play(t, "raw "+word, "error 1", "step 5", still)
		play(t, "raw 00"+word, "error 1", "step 5", still)
		play(t, "raw "+word+"00", "error 1", "step 5", still)
	}
	play(t, "raw 00 00", "error 1", "raw - -", "error 1", "raw 0 0", "error 1", "raw - 00", "error 1", "raw 00 -", "error 1", "raw", "error 1", "raw   ", "error 1", "step 5", still)
}

// Each sign as the higher and as the lower digit: bytes 10 and 32 alone are none of a word.
func TestDigits(t *testing.T) {
	const digits = "0123456789abcdef"
	for sign := range 256 {
		if sign == 10 || sign == 32 {
			continue
		}
		for place := range 2 {
			word := []byte("00")
			word[place] = byte(sign)
			line := "raw " + string(word)
			want, then := "error 1", still
			if strings.IndexByte(digits, byte(sign)) >= 0 {
				want, then = "ok", "0 0 0 0 1 0 0 0 0 0 0 0"
			}
			play(t, line, want, "step 5", then)
		}
	}
}

func TestNoBytes(t *testing.T) {
	play(t, "raw -", "ok", "step 5", still, "raw -", "ok", "raw -", "ok", "step 6", still)
	play(t, "raw a51002", "ok", "raw -", "ok", "raw 070178b1", "ok", "step 5", "3 0 7 0 0 0 0 0 0 0 0 0")
}

// Each byte is the one that its digits say: as the number of an order it is told again.
func TestEachByte(t *testing.T) {
	for b := range 256 {
		s, ok := frame.Wrap(api.Frame{Kind: api.KindOrder, Data: string([]byte{byte(b), 1})})
		if !ok {
			t.Fatal("no frame")
		}
		play(t, raw(s), "ok", "step 5", fmt.Sprintf("3 0 %d 0 0 0 0 0 0 0 0 0", b))
	}
}
