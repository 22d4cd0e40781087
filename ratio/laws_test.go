package ratio

import (
	"testing"

	"peloton/api"
)

// triples calls f with three fractions of a few edges, and with many mixed ones.
func triples(f func(a, b, c api.Ratio)) {
	few := []api.Ratio{
		frac(0, 1), frac(1, 1), frac(-1, 1), frac(1, 2), frac(-1, 3), frac(5, 6), frac(1<<30, 1), frac(-1<<30, 1023),
		frac(1, 1024), frac(most, 1), frac(-most, 1), frac(1, most), frac(-1, most), frac(most, most-1),
		frac(1-most, most), frac(1<<62, 3), frac(3, 1<<62), frac(7, 1<<31),
	}
	for _, a := range few {
		for _, b := range few {
			for _, c := range few {
				f(a, b, c)
			}
		}
	}
	list := mixed(30000)
	for i := range list[2:] {
		f(list[i], list[i+1], list[i+2])
	}
}

// compare is Cmp of fractions that are valid.
func compare(t *testing.T, a, b api.Ratio) int {
	t.Helper()
	k, e := Cmp(a, b)
	if e != api.OK {
		t.Fatal(a, b, e)
	}
	return k
}

// P1.4: Cmp is a total order.
func TestTotalOrder(t *testing.T) {
	forPairs(t, func(a, b api.Ratio) {
		k := compare(t, a, b)
		if k != -compare(t, b, a) || (k == 0) != (a == b) || k < -1 || k > 1 {
			t.Error(a, b, k)
		}
	})
	triples(func(a, b, c api.Ratio) {
		if compare(t, a, b) <= 0 && compare(t, b, c) <= 0 && compare(t, a, c) > 0 {
			t.Error(a, b, c)
		}
	})
}

// P1.4: Cmp is the sign of the difference.
func TestSignOfDifference(t *testing.T) {
	seen := 0
	forPairs(t, func(a, b api.Ratio) {
		d, e := Sub(a, b)
		if e != api.OK {
			return
		}
		seen++
		if compare(t, a, b) != compare(t, d, frac(0, 1)) {
			t.Error(a, b, d)
		}
	})
	enough(t, seen)
}

// P1.4: adding the same to both sides changes no order.
func TestSameOnBothSides(t *testing.T) {
	seen := 0
	triples(func(a, b, c api.Ratio) {
		x, e := Add(a, c)
		y, f := Add(b, c)
		if e != api.OK || f != api.OK {
			return
		}
		seen++
		if compare(t, a, b) != compare(t, x, y) {
			t.Error(a, b, c)
		}
	})
	enough(t, seen)
}

// P1.4: the order of sums and products does not matter.
func TestOrderDoesNotMatter(t *testing.T) {
	forPairs(t, func(a, b api.Ratio) {
		for i, op := range []func(a, b api.Ratio) (api.Ratio, api.Errno){Add, Mul} {
			x, e := op(a, b)
			y, f := op(b, a)
			if x != y || e != f {
				t.Error(i, a, b, x, y, e, f)
			}
		}
	})
}

// P1.4: how sums and products are put together does not matter.
func TestBracketsDoNotMatter(t *testing.T) {
	seen := [2]int{}
	triples(func(a, b, c api.Ratio) {
		for i, op := range []func(a, b api.Ratio) (api.Ratio, api.Errno){Add, Mul} {
			left, e1 := op(a, b)
			right, e2 := op(b, c)
			if e1 != api.OK || e2 != api.OK {
				continue
			}
			x, e := op(left, c)
			y, f := op(a, right)
			seen[i]++
			if x != y || e != f {
				t.Error(i, a, b, c, x, y, e, f)
			}
		}
	})
	enough(t, seen[0])
	enough(t, seen[1])
}

// P1.4: what is added and taken away is back.
func TestThereAndBack(t *testing.T) {
	seen := 0
	forPairs(t, func(a, b api.Ratio) {
		if s, e := Add(a, b); e == api.OK {
			seen++
			if r, f := Sub(s, b); r != a || f != api.OK {
				t.Error(a, b, s, r, f)
			}
		}
		if d, e := Sub(a, b); e == api.OK {
			if r, f := Add(d, b); r != a || f != api.OK {
				t.Error(a, b, d, r, f)
			}
		}
	})
	enough(t, seen)
}

// P1.4: nothing is out of range for times that are asked for, and whole numbers up to 2^22.
func TestAskedStaysInRange(t *testing.T) {
	var list []api.Ratio
	for _, den := range []int64{1, 2, 3, 1019, 1021, 1023, 1024} {
		for _, num := range []int64{0, 1, 5, 1 << 22, 1<<30 - 3, 1<<30 - 1, 1 << 30} {
			for _, r := range []api.Ratio{frac(num, den), frac(-num, den)} {
				if Asked(r) == api.OK {
					list = append(list, r)
				}
			}
		}
	}
	enough(t, len(list)*len(list))
	for _, a := range list {
		for _, b := range list {
			_, e := Add(a, b)
			_, f := Sub(a, b)
			_, g := Mul(a, b)
			if e != api.OK || f != api.OK || g != api.OK {
				t.Error(a, b, e, f, g)
			}
		}
	}
}

// enough fails if a law was seen so seldom that it was hardly tested.
func enough(t *testing.T, seen int) {
	t.Helper()
	if seen < 1000 {
		t.Error("seen only", seen)
	}
}
