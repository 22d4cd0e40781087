package course

import (
	"testing"

	"peloton/api"
)

// P2.2: Ahead, where it is known.
func TestAhead(t *testing.T) {
	one, two, five := pt(1, 0, 2), pt(2, 6, -1), pt(5, 0, 0)
	for _, c := range []struct {
		p, q api.Point
		at   api.Ratio
		want bool
	}{
		{two, one, frac(1, 1), true},
		{two, one, frac(1999, 1000), true},
		{one, two, frac(2, 1), true},
		{one, two, frac(2001, 1000), true},
		{one, two, frac(most, 1), true},
		{two, one, frac(-most, 1), true},
		{one, five, frac(0, 1), true},
		{five, one, frac(-1, most), true},
		{two, five, frac(6*1024-1, 1024), true},
		{five, two, frac(6, 1), true},
		// The same place and the same B, at each time: the lesser ID.
		{pt(4, 3, 7), pt(5, 3, 7), frac(0, 1), true},
		{pt(0, 3, 7), pt(api.MaxID, 3, 7), frac(-most, 1), true},
		{pt(0, coord, coord), pt(1, coord, coord), frac(most, 1), true},
		// The same B alone: the greater A, whatever the IDs are.
		{pt(9, 4, 7), pt(5, 3, 7), frac(-1, 2), true},
		{pt(9, 4, -7), pt(5, 3, -7), frac(most, 1), true},
		{pt(5, 4, 0), pt(9, 3, 0), frac(0, 1), true},
		{pt(9, 1-coord, coord), pt(8, -coord, coord), frac(most, most-1), true},
		// The same A alone: the greater B from 0 on, whatever the IDs are.
		{pt(9, 4, 7), pt(5, 4, 3), frac(0, 1), true},
		{pt(5, 4, 7), pt(9, 4, 3), frac(0, 1), true},
		{pt(5, 4, 3), pt(9, 4, 7), frac(-1, most), true},
		// Places out of range.
		{pt(9, coord, coord), pt(1, coord, coord-1), frac(most, 1), true},
		{pt(9, coord, coord), pt(1, coord, coord-1), frac(-most, 1), false},
		{pt(9, 2, 1), pt(1, 1, 1), frac(1, most), true},
		{pt(9, coord, 1), pt(1, coord-1, coord), frac(1, most), true},
	} {
		if ok, e := Ahead(c.p, c.q, c.at); ok != c.want || e != api.OK {
			t.Error(c.p, c.q, c.at, ok, e)
		}
		if ok, e := Ahead(c.q, c.p, c.at); ok == c.want || e != api.OK {
			t.Error(c.q, c.p, c.at, ok, e)
		}
	}
}

// P2.2: Ahead, against the definition.
func TestAheadByDefinition(t *testing.T) {
	seen := map[bool]int{}
	forTimes(t, func(p, q api.Point, at api.Ratio) {
		want := isAhead(p, q, at)
		seen[want]++
		if ok := ahead(t, p, q, at); ok != want {
			t.Fatal(p, q, at, ok)
		}
	})
	enough(t, seen[true])
	enough(t, seen[false])
}

// P2.2: Meet, where it is known, before 0, at 0 and after it.
func TestMeet(t *testing.T) {
	for _, c := range []struct {
		p, q api.Point
		want api.Ratio
		e    api.Errno
	}{
		{pt(1, 0, 2), pt(2, 6, -1), frac(2, 1), api.OK},
		{pt(1, 0, 2), pt(5, 0, 0), frac(0, 1), api.OK},
		{pt(2, 6, -1), pt(5, 0, 0), frac(6, 1), api.OK},
		{pt(3, 1, 4), pt(7, 0, 1), frac(-1, 3), api.OK},
		{pt(3, 1, 4), pt(7, 3, 0), frac(1, 2), api.OK},
		{pt(3, 5, 4), pt(7, 5, -4), frac(0, 1), api.OK},
		{pt(0, coord, 0), pt(api.MaxID, -coord, 1), frac(2*coord, 1), api.OK},
		{pt(0, coord, 1), pt(api.MaxID, -coord, 0), frac(-2*coord, 1), api.OK},
		{pt(0, 0, -coord), pt(1, 1, coord), frac(-1, 2*coord), api.OK},
		{pt(0, 1, -coord), pt(1, 0, coord), frac(1, 2*coord), api.OK},
		{pt(0, coord, -coord), pt(1, -coord, coord), frac(1, 1), api.OK},
		{pt(1, 0, 2), pt(2, 6, 2), frac(0, 0), api.ErrNone},
		{pt(1, 6, 2), pt(2, 6, 2), frac(0, 0), api.ErrNone},
		{pt(0, coord, coord), pt(api.MaxID, -coord, coord), frac(0, 0), api.ErrNone},
		{pt(1, 0, 0), pt(2, 0, 0), frac(0, 0), api.ErrNone},
	} {
		if r, e := Meet(c.p, c.q); r != c.want || e != c.e {
			t.Error(c.p, c.q, r, e)
		}
		if r, e := Meet(c.q, c.p); r != c.want || e != c.e {
			t.Error(c.q, c.p, r, e)
		}
	}
}

// P2.2: at the meeting both points are at the same place, and where there is none they have the same B.
func TestMeetByDefinition(t *testing.T) {
	found, none := 0, 0
	forPairs(t, func(p, q api.Point) {
		r, e := Meet(p, q)
		if p.B == q.B {
			none++
			if r != frac(0, 0) || e != api.ErrNone {
				t.Fatal(p, q, r, e)
			}
			return
		}
		found++
		if r != meets(p, q) || e != api.OK || truth(p, r).Cmp(truth(q, r)) != 0 {
			t.Fatal(p, q, r, e)
		}
		x, e := At(p, r)
		y, f := At(q, r)
		if x != y || e != api.OK || f != api.OK {
			t.Fatal(p, q, r, x, y, e, f)
		}
	})
	enough(t, found)
	if none < 20 {
		t.Error("seen only", none)
	}
}
