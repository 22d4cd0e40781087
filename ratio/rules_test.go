package ratio

import (
	"testing"

	"peloton/api"
)

// bad are fractions that are not valid, each one for another reason.
func bad() []api.Ratio {
	return []api.Ratio{
		frac(0, 0), frac(1, 0), frac(-1, 0), frac(0, 2), frac(0, -1), frac(2, 2), frac(6, 4), frac(-6, 4),
		frac(3, -2), frac(1, -most), frac(least, 1), frac(least, 3), frac(1, least), frac(least, least),
		frac(most, most), frac(-most, most), frac(0, most), frac(0, least), frac(least, 0), frac(most, 0),
	}
}

// operations are the functions of two fractions that have a fraction.
func operations() []func(a, b api.Ratio) (api.Ratio, api.Errno) {
	return []func(a, b api.Ratio) (api.Ratio, api.Errno){Add, Sub, Mul}
}

// R1 and the first line of the promises: ErrBad comes first, whichever fraction is not valid, with zero values.
func TestNotValid(t *testing.T) {
	good := []api.Ratio{frac(0, 1), frac(1, 2), frac(most, 1), frac(-most, 1), frac(1, most)}
	for _, b := range bad() {
		if e := Asked(b); e != api.ErrBad {
			t.Error(b, e)
		}
		if n, e := Floor(b); n != 0 || e != api.ErrBad {
			t.Error(b, n, e)
		}
		for _, g := range append(good, bad()...) {
			for _, p := range [][2]api.Ratio{{b, g}, {g, b}} {
				if k, e := Cmp(p[0], p[1]); k != 0 || e != api.ErrBad {
					t.Error(p, k, e)
				}
				for i, op := range operations() {
					if r, e := op(p[0], p[1]); r != frac(0, 0) || e != api.ErrBad {
						t.Error(i, p, r, e)
					}
				}
			}
		}
	}
}

// R1 and R7: whatever the arguments are, nothing panics, and with an error there is nothing else.
func TestWhateverComes(t *testing.T) {
	all := allEdges()
	for i, a := range all {
		if r, e := Make(a.Num, a.Den); (e == api.OK) != isValid(r) {
			t.Error(a, r, e)
		}
		for j := i % 7; j < len(all); j += 7 {
			b := all[j]
			bothValid := isValid(a) && isValid(b)
			if k, e := Cmp(a, b); (e == api.OK) != bothValid || e != api.OK && k != 0 {
				t.Error(a, b, k, e)
			}
			for n, op := range operations() {
				r, e := op(a, b)
				if (e == api.ErrBad) == bothValid || (e == api.OK) != isValid(r) || e != api.OK && r != frac(0, 0) {
					t.Error(n, a, b, r, e)
				}
			}
		}
	}
}

// R2: nothing is kept from call to call.
func TestNothingIsKept(t *testing.T) {
	type answer struct {
		r    api.Ratio
		k    int
		n    int64
		e, f api.Errno
	}
	list := append(bad(), mixed(200)...)
	ask := func(i int) answer {
		a, b := list[i], list[(i*31+7)%len(list)]
		var x answer
		x.r, x.e = operations()[i%3](a, b)
		x.k, x.f = Cmp(a, b)
		x.n, _ = Floor(a)
		return x
	}
	first := make([]answer, len(list))
	for i := range list {
		first[i] = ask(i)
	}
	for i := len(list) - 1; i >= 0; i-- {
		if x := ask(i); x != first[i] {
			t.Error(i, x, first[i])
		}
	}
}
