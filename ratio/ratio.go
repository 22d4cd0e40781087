// Package ratio is layer 1: see shared/doc/01-ratio.md.
package ratio

import (
	"math"

	"peloton/api"
)

// Check returns ErrBad unless a fraction is valid.
func Check(r api.Ratio) api.Errno {
	if r.Den < 1 || r.Num == math.MinInt64 || divisor(size(r.Num), size(r.Den)) != 1 {
		return api.ErrBad
	}
	return api.OK
}

// Asked returns ErrBad unless a fraction is valid, and then ErrArg unless it is a time that is asked for.
func Asked(r api.Ratio) api.Errno {
	if e := Check(r); e != api.OK {
		return e
	}
	if size(r.Num) > api.MaxNum || r.Den > api.MaxDen {
		return api.ErrArg
	}
	return api.OK
}

// Make returns num divided by den.
func Make(num, den int64) (api.Ratio, api.Errno) {
	if den == 0 {
		return api.Ratio{}, api.ErrZero
	}
	// Only sizes are reduced: 2^63, which has no int64, may become less.
	common := divisor(size(num), size(den))
	negative := (num < 0) != (den < 0)
	top, topFits := signed(size(num)/common, negative)
	bottom, bottomFits := signed(size(den)/common, false)
	return result(top, bottom, topFits && bottomFits)
}

// Of returns a whole number as a fraction.
func Of(n int64) (api.Ratio, api.Errno) {
	return Make(n, 1)
}

// Cmp returns -1, 0 or 1 if a is less than b, is b, or is greater.
func Cmp(a, b api.Ratio) (int, api.Errno) {
	if e := checkBoth(a, b); e != api.OK {
		return 0, e
	}
	left, right := product(a.Num, b.Den), product(b.Num, a.Den)
	return left.plus(right.negated()).sign(), api.OK
}

// Add returns the sum of two fractions.
func Add(a, b api.Ratio) (api.Ratio, api.Errno) {
	if e := checkBoth(a, b); e != api.OK {
		return api.Ratio{}, e
	}
	return sum(a, b)
}

// Sub returns the difference of two fractions.
func Sub(a, b api.Ratio) (api.Ratio, api.Errno) {
	if e := checkBoth(a, b); e != api.OK {
		return api.Ratio{}, e
	}
	return sum(a, api.Ratio{Num: -b.Num, Den: b.Den})
}

// Mul returns the product of two fractions.
func Mul(a, b api.Ratio) (api.Ratio, api.Errno) {
	if e := checkBoth(a, b); e != api.OK {
		return api.Ratio{}, e
	}
	// Each numerator is reduced with the other denominator, so what is left shares nothing any more.
	first := int64(divisor(size(a.Num), size(b.Den)))
	second := int64(divisor(size(b.Num), size(a.Den)))
	num, numFits := product(a.Num/first, b.Num/second).divided(1)
	den, denFits := product(a.Den/second, b.Den/first).divided(1)
	return result(num, den, numFits && denFits)
}

// Floor returns the greatest whole number that is not greater than a fraction.
func Floor(r api.Ratio) (int64, api.Errno) {
	if e := Check(r); e != api.OK {
		return 0, e
	}
	whole := r.Num / r.Den
	// Go rounds towards 0, which is up for a negative number.
	if r.Num%r.Den < 0 {
		whole--
	}
	return whole, api.OK
}

func checkBoth(a, b api.Ratio) api.Errno {
	if e := Check(a); e != api.OK {
		return e
	}
	return Check(b)
}

// sum adds two valid fractions.
func sum(a, b api.Ratio) (api.Ratio, api.Errno) {
	common := divisor(size(a.Den), size(b.Den))
	left, right := a.Den/int64(common), b.Den/int64(common)
	top := product(a.Num, right).plus(product(b.Num, left))
	// As a and b are in lowest terms, top shares no more with the common denominator than it does with common.
	shared := divisor(top.remainder(common), common)
	num, numFits := top.divided(shared)
	den, denFits := product(left, b.Den/int64(shared)).divided(1)
	return result(num, den, numFits && denFits)
}

// result is the fraction num divided by den, which are in lowest terms, if both fit.
func result(num, den int64, fits bool) (api.Ratio, api.Errno) {
	if !fits {
		return api.Ratio{}, api.ErrRange
	}
	return api.Ratio{Num: num, Den: den}, api.OK
}
