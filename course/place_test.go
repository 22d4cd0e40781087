package course

import (
	"testing"

	"peloton/api"
	"peloton/ratio"
)

// compareAt compares At with another program, and tells whether the place is in range.
func compareAt(t *testing.T, p api.Point, at api.Ratio) bool {
	t.Helper()
	want, f := expected(truth(p, at))
	if r, e := At(p, at); r != want || e != f {
		t.Fatal(p, at, r, e, want, f)
	}
	return f == api.OK
}

// P2.1: At, at places that are known.
func TestAt(t *testing.T) {
	for _, c := range []struct {
		p        api.Point
		at, want api.Ratio
	}{
		{pt(1, 0, 2), frac(2, 1), frac(4, 1)},
		{pt(2, 6, -1), frac(2, 1), frac(4, 1)},
		{pt(1, 0, 2), frac(0, 1), frac(0, 1)},
		{pt(2, 6, -1), frac(-1, 2), frac(13, 2)},
		{pt(2, 6, -1), frac(6, 1), frac(0, 1)},
		{pt(3, 1, 2), frac(1, 4), frac(3, 2)},
		{pt(3, 1, 6), frac(-7, 4), frac(-19, 2)},
		{pt(3, 5, 0), frac(1, most), frac(5, 1)},
		{pt(3, 5, 0), frac(-most, 1), frac(5, 1)},
		{pt(3, 0, 0), frac(most, 2), frac(0, 1)},
		{pt(3, 0, 1), frac(most, 1), frac(most, 1)},
		{pt(3, 0, 1), frac(-most, 1), frac(-most, 1)},
		{pt(3, 0, -1), frac(most, most-1), frac(-most, most-1)},
		{pt(3, coord, coord), frac(-1, 1), frac(0, 1)},
		{pt(3, coord, coord), frac(1, coord), frac(coord+1, 1)},
		{pt(3, -coord, -coord), frac(-1, 2), frac(-coord/2, 1)},
		// Places in range, where B t alone is not, or the parts are not.
		{pt(3, -1, 2), frac(1<<62, 1), frac(most, 1)},
		{pt(3, 1, -2), frac(1<<62, 1), frac(-most, 1)},
		{pt(3, -coord, coord), frac(1<<43, 1), frac(most-coord+1, 1)},
		{pt(3, -1, 2), frac(1<<62, 3), frac(most-2, 3)},
		{pt(3, 1, -2), frac(1<<62, 3), frac(-most+2, 3)},
		{pt(3, -coord, coord), frac(most-1, most), frac(-coord, most)},
		{pt(3, coord, -coord), frac(most-1, most), frac(coord, most)},
	} {
		if r, e := At(c.p, c.at); r != c.want || e != api.OK {
			t.Error(c.p, c.at, r, e)
		}
	}
}

// P2.1: At, out of range, and just out of it.
func TestAtOutOfRange(t *testing.T) {
	for _, c := range []struct {
		p  api.Point
		at api.Ratio
	}{
		{pt(3, 1, 1), frac(most, 1)},
		{pt(3, -1, 1), frac(-most, 1)},
		{pt(3, -2, 1), frac(-most, 1)},
		{pt(3, 0, 2), frac(1<<62, 1)},
		{pt(3, 0, -2), frac(1<<62, 1)},
		{pt(3, -1, -2), frac(1<<62, 1)},
		{pt(3, 0, 2), frac(1<<62, 3)},
		{pt(3, 0, -2), frac(1<<62, 3)},
		{pt(3, coord, coord), frac(most, 1)},
		{pt(3, -coord, -coord), frac(most, 1)},
		{pt(3, coord, coord), frac(most, most-1)},
		{pt(3, -coord, coord), frac(1, most)},
		{pt(3, 2, 1), frac(1, most)},
	} {
		if r, e := At(c.p, c.at); r != frac(0, 0) || e != api.ErrRange {
			t.Error(c.p, c.at, r, e)
		}
	}
}

// P2.1: At, against another program.
func TestAtAgainstBig(t *testing.T) {
	seen := map[bool]int{}
	for _, p := range points() {
		for _, at := range times() {
			seen[compareAt(t, p, at)]++
		}
	}
	m := mixer(3)
	for range 200000 {
		seen[compareAt(t, m.point(), m.time())]++
	}
	enough(t, seen[true])
	enough(t, seen[false])
}

// endTimes are times at which a place with the speed b, or -b, has a numerator near an end of 64 bits.
func endTimes(b int64) []api.Ratio {
	var list []api.Ratio
	for _, den := range []int64{1, 2, 3, 4, 5, 6, 7, 12, 1 << 20, 1<<20 + 1, 1 << 42, 1<<43 - 1} {
		for step := range int64(12) {
			num := most - step
			if b > 1 {
				num = most/b + 6 - step
			}
			for _, r := range []api.Ratio{frac(num, den), frac(-num, den)} {
				if ratio.Check(r) == api.OK {
					list = append(list, r)
				}
			}
		}
	}
	return list
}

// P2.1: At, around both ends of its range, with all kinds of denominators.
func TestAtAroundTheEnds(t *testing.T) {
	seen := map[bool]int{}
	for _, b := range []int64{1, 2, 3, 6, 7, 12, coord - 1, coord} {
		for _, at := range endTimes(b) {
			for _, a := range []int64{0, 1, -1, 5, -5, coord, -coord} {
				seen[compareAt(t, pt(3, a, b), at)]++
				seen[compareAt(t, pt(3, a, -b), at)]++
			}
		}
	}
	enough(t, seen[true])
	enough(t, seen[false])
}
