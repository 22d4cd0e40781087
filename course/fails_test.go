package course

import (
	"testing"

	"peloton/api"
)

// failure is the failure time by the definition.
func failure(high, low api.Point, now api.Ratio) (api.Ratio, bool) {
	if isAhead(low, high, now) {
		return now, true
	}
	if low.B > high.B {
		return meets(high, low), true
	}
	return api.Ratio{}, false
}

// P2.3: Fails, where it is known.
func TestFails(t *testing.T) {
	one, two, five := pt(1, 0, 2), pt(2, 6, -1), pt(5, 0, 0)
	for _, c := range []struct {
		high, low api.Point
		now, want api.Ratio
		found     bool
	}{
		// The meeting is to come.
		{two, one, frac(0, 1), frac(2, 1), true},
		{two, one, frac(1, 1), frac(2, 1), true},
		{two, one, frac(-most, 1), frac(2, 1), true},
		{two, one, frac(2047, 1024), frac(2, 1), true},
		{two, five, frac(1, 1), frac(6, 1), true},
		{pt(3, 0, 1), pt(7, 1, 4), frac(-1, 2), frac(-1, 3), true},
		{pt(7, 0, 1), pt(3, 1, 4), frac(-1, 2), frac(-1, 3), true},
		// It is now, or it was before.
		{two, one, frac(2, 1), frac(2, 1), true},
		{two, one, frac(3, 1), frac(3, 1), true},
		{two, one, frac(2049, 1024), frac(2049, 1024), true},
		{two, one, frac(most, 1), frac(most, 1), true},
		{five, one, frac(0, 1), frac(0, 1), true},
		{one, five, frac(-1, most), frac(-1, most), true},
		// It does not hold now, though it will.
		{one, two, frac(1, 1), frac(1, 1), true},
		{one, two, frac(-most, 1), frac(-most, 1), true},
		// It holds for ever.
		{one, two, frac(2, 1), frac(0, 0), false},
		{one, two, frac(most, 1), frac(0, 0), false},
		{one, five, frac(0, 1), frac(0, 0), false},
		{one, five, frac(1, 1), frac(0, 0), false},
		// They never meet.
		{pt(1, 5, 3), pt(2, 4, 3), frac(1, most), frac(0, 0), false},
		{pt(1, 4, 3), pt(2, 5, 3), frac(1, most), frac(1, most), true},
		{pt(1, 4, 3), pt(2, 4, 3), frac(7, 2), frac(0, 0), false},
		{pt(2, 4, 3), pt(1, 4, 3), frac(7, 2), frac(7, 2), true},
		{pt(0, coord, coord), pt(api.MaxID, coord, coord), frac(most, 1), frac(0, 0), false},
		{pt(api.MaxID, coord, coord), pt(0, coord, coord), frac(most, 1), frac(most, 1), true},
	} {
		if r, ok, e := Fails(c.high, c.low, c.now); r != c.want || ok != c.found || e != api.OK {
			t.Error(c.high, c.low, c.now, r, ok, e)
		}
	}
}

// P2.3: Fails, against the definition.
func TestFailsByDefinition(t *testing.T) {
	seen := map[bool]int{}
	forTimes(t, func(high, low api.Point, now api.Ratio) {
		want, found := failure(high, low, now)
		seen[found]++
		if r, ok, e := Fails(high, low, now); r != want || ok != found || e != api.OK {
			t.Fatal(high, low, now, r, ok, e)
		}
	})
	enough(t, seen[true])
	enough(t, seen[false])
}
