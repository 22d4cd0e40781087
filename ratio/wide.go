package ratio

import (
	"math"
	"math/bits"
)

// wide is a whole number of 128 bits in two's complement: a sum of two products of numbers of 64 bits fits, as none of them is -2^63 in a valid fraction.
type wide struct {
	high, low uint64
}

func product(a, b int64) wide {
	high, low := bits.Mul64(size(a), size(b))
	w := wide{high, low}
	if (a < 0) != (b < 0) {
		return w.negated()
	}
	return w
}

func (w wide) plus(v wide) wide {
	low, carry := bits.Add64(w.low, v.low, 0)
	high, _ := bits.Add64(w.high, v.high, carry)
	return wide{high, low}
}

func (w wide) negated() wide {
	low, borrow := bits.Sub64(0, w.low, 0)
	high, _ := bits.Sub64(0, w.high, borrow)
	return wide{high, low}
}

func (w wide) sign() int {
	if int64(w.high) < 0 {
		return -1
	}
	if w.high == 0 && w.low == 0 {
		return 0
	}
	return 1
}

// size is w without its sign.
func (w wide) size() wide {
	if w.sign() < 0 {
		return w.negated()
	}
	return w
}

// remainder is what is left of the size of w, divided by d, which is not 0.
func (w wide) remainder(d uint64) uint64 {
	s := w.size()
	return bits.Rem64(s.high, s.low, d)
}

// divided is w divided by d, which is not 0 and leaves no remainder, and whether the result fits.
func (w wide) divided(d uint64) (int64, bool) {
	s := w.size()
	// bits.Div64 panics where its quotient has more than 64 bits.
	if s.high >= d {
		return 0, false
	}
	quotient, _ := bits.Div64(s.high, s.low, d)
	return signed(quotient, w.sign() < 0)
}

// size is n without its sign, also for -2^63, whose size has no int64.
func size(n int64) uint64 {
	if n < 0 {
		return -uint64(n)
	}
	return uint64(n)
}

// signed is n with a sign, and whether it fits; -2^63 does not, as no valid fraction has it.
func signed(n uint64, negative bool) (int64, bool) {
	if n > math.MaxInt64 {
		return 0, false
	}
	if negative {
		return -int64(n), true
	}
	return int64(n), true
}

// divisor is the greatest common divisor; that of 0 and n is n.
func divisor(a, b uint64) uint64 {
	for b != 0 {
		a, b = b, a%b
	}
	return a
}
