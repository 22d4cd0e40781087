package ratio

import (
	"math/big"
	"testing"

	"peloton/api"
)

// The examples of the chapter.
func TestExamples(t *testing.T) {
	half, e := Make(6, -4)
	if n, f := Floor(half); half != frac(-3, 2) || e != api.OK || n != -2 || f != api.OK {
		t.Error(half, e, n, f)
	}
	third, sixth := frac(1, 3), frac(1, 6)
	if r, e := Add(third, sixth); r != frac(1, 2) || e != api.OK {
		t.Error(r, e)
	}
	if r, e := Mul(third, sixth); r != frac(1, 18) || e != api.OK {
		t.Error(r, e)
	}
	a, b := frac(1, 9223372036854775807), frac(1, 9223372036854775806)
	if k, e := Cmp(a, b); k != -1 || e != api.OK {
		t.Error(k, e)
	}
	if r, e := Add(a, b); r != frac(0, 0) || e != api.ErrRange {
		t.Error(r, e)
	}
	// Of the whole.
	if r, e := Add(frac(1, 2), third); r != frac(5, 6) || e != api.OK {
		t.Error(r, e)
	}
	if n, e := Floor(frac(-7, 2)); n != -4 || e != api.OK {
		t.Error(n, e)
	}
}

// P1.3: sums and differences just in range and just out of it.
func TestSumsAtTheEnds(t *testing.T) {
	for _, c := range []struct {
		a, b, want api.Ratio
		e          api.Errno
	}{
		{frac(most-1, 1), frac(1, 1), frac(most, 1), api.OK},
		{frac(most, 1), frac(1, 1), frac(0, 0), api.ErrRange},
		{frac(1-most, 1), frac(-1, 1), frac(-most, 1), api.OK},
		{frac(-most, 1), frac(-1, 1), frac(0, 0), api.ErrRange},
		{frac(most, 1), frac(most, 1), frac(0, 0), api.ErrRange},
		{frac(most, 1), frac(-most, 1), frac(0, 1), api.OK},
		{frac(most, 2), frac(-1, 2), frac(1<<62-1, 1), api.OK},
		{frac(most, 2), frac(most, 2), frac(most, 1), api.OK},
		{frac(most, 2), frac(1, 2), frac(1<<62, 1), api.OK},
		{frac(most, 2), frac(1, 1), frac(0, 0), api.ErrRange},
		{frac(most-2, 2), frac(1, 1), frac(most, 2), api.OK},
		{frac(most, most-1), frac(-most, most-1), frac(0, 1), api.OK},
		{frac(most-1, most), frac(1, most), frac(1, 1), api.OK},
		{frac(1, most), frac(-1, most), frac(0, 1), api.OK},
		{frac(1, most), frac(1, most), frac(2, most), api.OK},
		{frac(3, most), frac(4, most), frac(1, most/7), api.OK},
		{frac(1, 1<<62), frac(1, 1<<62), frac(1, 1<<61), api.OK},
		{frac(1, 1<<62), frac(1, 3), frac(0, 0), api.ErrRange},
		{frac(1, 1<<32-1), frac(1, 1<<31), frac(1<<32-1+1<<31, (1<<32-1)<<31), api.OK},
		{frac(1, 1<<32+1), frac(1, 1<<31), frac(0, 0), api.ErrRange},
		{frac(1, most), frac(0, 1), frac(1, most), api.OK},
		{frac(1, most), frac(1, 1), frac(0, 0), api.ErrRange},
		{frac(-1, most), frac(1, 1), frac(most-1, most), api.OK},
	} {
		if r, e := Add(c.a, c.b); r != c.want || e != c.e {
			t.Error(c.a, c.b, r, e)
		}
		if r, e := Sub(c.a, frac(-c.b.Num, c.b.Den)); r != c.want || e != c.e {
			t.Error(c.a, c.b, r, e)
		}
	}
}

// P1.3: products just in range and just out of it.
func TestProductsAtTheEnds(t *testing.T) {
	for _, c := range []struct {
		a, b, want api.Ratio
		e          api.Errno
	}{
		{frac(most, 1), frac(1, 1), frac(most, 1), api.OK},
		{frac(most, 1), frac(-1, 1), frac(-most, 1), api.OK},
		{frac(most, 1), frac(0, 1), frac(0, 1), api.OK},
		{frac(1, most), frac(0, 1), frac(0, 1), api.OK},
		{frac(most, 1), frac(1, most), frac(1, 1), api.OK},
		{frac(-most, most-1), frac(most-1, most), frac(-1, 1), api.OK},
		{frac(most/7, 1), frac(7, 1), frac(most, 1), api.OK},
		{frac(most/7, 1), frac(-8, 1), frac(0, 0), api.ErrRange},
		{frac(1<<62, 1), frac(2, 1), frac(0, 0), api.ErrRange},
		{frac(1<<62, 1), frac(-2, 1), frac(0, 0), api.ErrRange},
		{frac(1<<62, 1), frac(2, 3), frac(0, 0), api.ErrRange},
		{frac(1<<62, 1), frac(3, 2), frac(3<<61, 1), api.OK},
		{frac(1, 1<<61), frac(1, 2), frac(1, 1<<62), api.OK},
		{frac(1, 1<<62), frac(1, 2), frac(0, 0), api.ErrRange},
		{frac(1, 49), frac(1, most/49), frac(1, most), api.OK},
		{frac(1, most), frac(1, most), frac(0, 0), api.ErrRange},
		{frac(most, 1), frac(most, 1), frac(0, 0), api.ErrRange},
		{frac(1<<32, 1), frac(1<<32, 1), frac(0, 0), api.ErrRange},
		{frac(1, 1<<32), frac(1, 1<<32), frac(0, 0), api.ErrRange},
		{frac(1<<32-1, 1), frac(1<<31, 1), frac((1<<32-1)<<31, 1), api.OK},
	} {
		if r, e := Mul(c.a, c.b); r != c.want || e != c.e {
			t.Error(c.a, c.b, r, e)
		}
		if r, e := Mul(c.b, c.a); r != c.want || e != c.e {
			t.Error(c.b, c.a, r, e)
		}
	}
}

// P1.3: all operations, against another program.
func TestOperationsAgainstBig(t *testing.T) {
	forPairs(t, func(a, b api.Ratio) {
		x, y, z := truth(a), truth(b), new(big.Rat)
		if k, e := Cmp(a, b); k != x.Cmp(y) || e != api.OK {
			t.Error("cmp", a, b, k, e)
		}
		want, f := expected(z.Add(x, y))
		if r, e := Add(a, b); r != want || e != f {
			t.Error("add", a, b, r, e)
		}
		want, f = expected(z.Sub(x, y))
		if r, e := Sub(a, b); r != want || e != f {
			t.Error("sub", a, b, r, e)
		}
		want, f = expected(z.Mul(x, y))
		if r, e := Mul(a, b); r != want || e != f {
			t.Error("mul", a, b, r, e)
		}
	})
}

// P1.3: Floor.
func TestFloor(t *testing.T) {
	for _, c := range []struct {
		r    api.Ratio
		want int64
	}{
		{frac(0, 1), 0},
		{frac(7, 2), 3},
		{frac(-7, 2), -4},
		{frac(3, 1), 3},
		{frac(-3, 1), -3},
		{frac(-1, most), -1},
		{frac(1, most), 0},
		{frac(most-1, most), 0},
		{frac(1-most, most), -1},
		{frac(-most, most-1), -2},
		{frac(most, 1), most},
		{frac(-most, 1), -most},
		{frac(-most, 2), -1 << 62},
		{frac(most, 2), 1<<62 - 1},
	} {
		if n, e := Floor(c.r); n != c.want || e != api.OK {
			t.Error(c.r, n, e)
		}
	}
	for _, r := range append(onlyValid(allEdges()), mixed(40000)...) {
		// Div of package big rounds down where the divisor is greater than 0.
		want := new(big.Int).Div(big.NewInt(r.Num), big.NewInt(r.Den))
		if n, e := Floor(r); n != want.Int64() || e != api.OK {
			t.Error(r, n, e)
		}
	}
}
