package ratio

import (
	"testing"

	"peloton/api"
)

// P1.1: Check.
func TestCheck(t *testing.T) {
	for _, c := range []struct {
		r    api.Ratio
		want api.Errno
	}{
		{frac(0, 1), api.OK},
		{frac(1, 1), api.OK},
		{frac(-3, 2), api.OK},
		{frac(most, 1), api.OK},
		{frac(-most, 1), api.OK},
		{frac(1, most), api.OK},
		{frac(-1, most), api.OK},
		{frac(most-1, most), api.OK},
		{frac(-most, most-1), api.OK},
		{frac(0, 0), api.ErrBad},
		{frac(1, 0), api.ErrBad},
		{frac(-1, 0), api.ErrBad},
		{frac(0, 2), api.ErrBad},
		{frac(0, -1), api.ErrBad},
		{frac(0, most), api.ErrBad},
		{frac(2, 2), api.ErrBad},
		{frac(6, 4), api.ErrBad},
		{frac(-6, 4), api.ErrBad},
		{frac(3, -2), api.ErrBad},
		{frac(-3, -2), api.ErrBad},
		{frac(most, most), api.ErrBad},
		{frac(7, most), api.ErrBad},
		{frac(least, 1), api.ErrBad},
		{frac(least, 3), api.ErrBad},
		{frac(least, most), api.ErrBad},
		{frac(1, least), api.ErrBad},
		{frac(least, least), api.ErrBad},
	} {
		if e := Check(c.r); e != c.want {
			t.Error(c.r, e)
		}
	}
	for _, r := range allEdges() {
		if e := Check(r); (e == api.OK) != isValid(r) || e != api.OK && e != api.ErrBad {
			t.Error(r, e)
		}
	}
}

// P1.1: Asked, at both limits, and ErrBad before ErrArg.
func TestAsked(t *testing.T) {
	for _, c := range []struct {
		r    api.Ratio
		want api.Errno
	}{
		{frac(0, 1), api.OK},
		{frac(-7, 3), api.OK},
		{frac(1<<30, 1), api.OK},
		{frac(-1<<30, 1), api.OK},
		{frac(1<<30-1, 1024), api.OK},
		{frac(1-1<<30, 1024), api.OK},
		{frac(1<<30, 1023), api.OK},
		{frac(1, 1024), api.OK},
		{frac(1<<30+1, 1), api.ErrArg},
		{frac(-1<<30-1, 1), api.ErrArg},
		{frac(1<<30+1, 1024), api.ErrArg},
		{frac(1, 1025), api.ErrArg},
		{frac(-1, 1025), api.ErrArg},
		{frac(1<<30, 1025), api.ErrArg},
		{frac(most, 1), api.ErrArg},
		{frac(-most, 1), api.ErrArg},
		{frac(1, most), api.ErrArg},
		{frac(0, 0), api.ErrBad},
		{frac(1<<30, 1024), api.ErrBad},
		{frac(2, 2), api.ErrBad},
		{frac(0, 1025), api.ErrBad},
		{frac(1, -1), api.ErrBad},
		{frac(least, 1), api.ErrBad},
		{frac(least, 1025), api.ErrBad},
		{frac(1, least), api.ErrBad},
		{frac(most, most), api.ErrBad},
	} {
		if e := Asked(c.r); e != c.want {
			t.Error(c.r, e)
		}
	}
}

// P1.2: Make.
func TestMake(t *testing.T) {
	for _, c := range []struct {
		num, den int64
		want     api.Ratio
		e        api.Errno
	}{
		{6, -4, frac(-3, 2), api.OK},
		{-6, -4, frac(3, 2), api.OK},
		{0, 5, frac(0, 1), api.OK},
		{0, -5, frac(0, 1), api.OK},
		{0, least, frac(0, 1), api.OK},
		{least, least, frac(1, 1), api.OK},
		{least, 2, frac(-1<<62, 1), api.OK},
		{least, -2, frac(1<<62, 1), api.OK},
		{2, least, frac(-1, 1<<62), api.OK},
		{-2, least, frac(1, 1<<62), api.OK},
		{least, 6, frac(-1<<62, 3), api.OK},
		{most, 1, frac(most, 1), api.OK},
		{most, -1, frac(-most, 1), api.OK},
		{-most, -1, frac(most, 1), api.OK},
		{1, -most, frac(-1, most), api.OK},
		{most, most, frac(1, 1), api.OK},
		{most, -most, frac(-1, 1), api.OK},
		{least, 1, frac(0, 0), api.ErrRange},
		{least, -1, frac(0, 0), api.ErrRange},
		{least, 3, frac(0, 0), api.ErrRange},
		{least, most, frac(0, 0), api.ErrRange},
		{1, least, frac(0, 0), api.ErrRange},
		{-1, least, frac(0, 0), api.ErrRange},
		{most, least, frac(0, 0), api.ErrRange},
		{0, 0, frac(0, 0), api.ErrZero},
		{1, 0, frac(0, 0), api.ErrZero},
		{least, 0, frac(0, 0), api.ErrZero},
	} {
		if r, e := Make(c.num, c.den); r != c.want || e != c.e {
			t.Error(c.num, c.den, r, e)
		}
	}
	for _, p := range allEdges() {
		if p.Den == 0 {
			continue
		}
		want, f := expected(truth(p))
		if r, e := Make(p.Num, p.Den); r != want || e != f {
			t.Error(p, r, e)
		}
	}
}

// P1.2: Of.
func TestOf(t *testing.T) {
	for _, n := range edges() {
		want, f := frac(n, 1), api.OK
		if n == least {
			want, f = frac(0, 0), api.ErrRange
		}
		if r, e := Of(n); r != want || e != f {
			t.Error(n, r, e)
		}
	}
}
