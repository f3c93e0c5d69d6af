package fixed

// tooMuch stands for all that fits no word: it is the size of no number.
const tooMuch uint64 = 1<<64 - 1

// wide: an unsigned integer of 128 bits.
type wide struct {
	high, low uint64
}

// product answers a b, by the four products of the words' halves.
func product(a, b uint64) wide {
	aHigh, aLow := a>>32, lowHalf(a)
	bHigh, bLow := b>>32, lowHalf(b)
	low := aLow * bLow
	// A product of two halves leaves room for two halves more: no sum here wraps round.
	middle := aHigh*bLow + low>>32
	other := aLow*bHigh + lowHalf(middle)
	return wide{
		high: aHigh*bHigh + middle>>32 + other>>32,
		low:  other<<32 | lowHalf(low),
	}
}

func lowHalf(a uint64) uint64 {
	return uint64(uint32(a))
}

// plus answers n + m, which has to be below 2^128.
func (n wide) plus(m wide) wide {
	low := n.low + m.low
	high := n.high + m.high
	if low < n.low {
		high++
	}
	return wide{high, low}
}

func (n wide) above(m wide) bool {
	return n.high > m.high || n.high == m.high && n.low > m.low
}

// shifted answers n / 2^bits, rounded, of 1 to 63 bits; tooMuch, where that fits no word.
func shifted(n wide, bits uint) uint64 {
	n = n.plus(wide{low: 1 << (bits - 1)})
	if n.high>>bits != 0 {
		return tooMuch
	}
	return n.high<<(64-bits) | n.low>>bits
}

// quotient answers n / d, rounded, of d from 1 to 2^63; tooMuch, where that fits no word.
func quotient(n wide, d uint64) uint64 {
	// Cutting behind half of d more is rounding; an odd d's half may be cut, too, as none is as near to two.
	n = n.plus(wide{low: d >> 1})
	if n.high >= d {
		return tooMuch
	}
	if n.high == 0 {
		// Most of what is divided is that small, and the loop below is slow.
		return n.low / d
	}
	return longDivision(n, d)
}

// longDivision answers n / d, cut, bit by bit, of n.high below d, and d of 2^63 at most.
func longDivision(n wide, d uint64) uint64 {
	var q uint64
	rest := n.high
	for bit := 63; bit >= 0; bit-- {
		rest = rest<<1 | n.low>>bit&1
		q <<= 1
		if rest >= d {
			rest -= d
			q |= 1
		}
	}
	return q
}

// root answers the greatest integer whose square isn't above n, of n below 2^126.
func root(n wide) uint64 {
	var r uint64
	for bit := uint64(1) << 62; bit != 0; bit >>= 1 {
		more := r | bit
		if !product(more, more).above(n) {
			r = more
		}
	}
	return r
}
