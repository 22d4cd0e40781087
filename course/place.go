package course

import (
	"math"

	"peloton/api"
	"peloton/ratio"
)

// halves is a whole number in two parts, the first of which counts 2^32: so a sum that does not fit into 64 bits on the way is still exact.
type halves [2]int64

// half covers the lower part of a number.
const half = 1<<32 - 1

// place is the place of a valid point at a valid time.
func place(p api.Point, t api.Ratio) (api.Ratio, api.Errno) {
	// B has no more than 21 bits and Den is not 0, so there is no error.
	rate, _ := ratio.Make(p.B, t.Den)
	// The place is (A rate.Den + rate.Num t.Num) / rate.Den. This is in lowest terms, as rate.Den has no common divisor with rate.Num, and none with t.Num: so it is out of range where its numerator is.
	num, fits := sum(p.A, split(rate.Den), rate.Num, split(t.Num)).joined()
	if !fits {
		return api.Ratio{}, api.ErrRange
	}
	return ratio.Make(num, rate.Den)
}

// split cuts a number into its parts, of which only the first one has its sign.
func split(n int64) halves {
	return halves{n >> 32, n & half}
}

// sum is a times x and b times y, together. As a and b have no more than 21 bits, each part of the sum has no more than 54.
func sum(a int64, x halves, b int64, y halves) halves {
	var s halves
	for i := range s {
		s[i] = a*x[i] + b*y[i]
	}
	return s
}

// joined is the number of which h has the parts, and whether it fits into 64 bits.
func (h halves) joined() (int64, bool) {
	high := h[0] + h[1]>>32
	if high < math.MinInt32 || high > math.MaxInt32 {
		return 0, false
	}
	return high<<32 + h[1]&half, true
}
