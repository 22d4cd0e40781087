package field

import (
	"slices"
	"testing"

	"peloton/api"
)

// wantOrder fails unless Order, Leader and Rank tell the order that is wanted.
func wantOrder(t *testing.T, f api.Field, at api.Ratio, want []int) {
	t.Helper()
	if order, e := Order(f, at); !slices.Equal(order, want) || e != api.OK {
		t.Fatal("order", f, at, order, e, want)
	}
	leader, e := Leader(f, at)
	if len(want) == 0 {
		if leader != 0 || e != api.ErrEmpty {
			t.Fatal("leader", f, at, leader, e)
		}
	} else if leader != want[0] || e != api.OK {
		t.Fatal("leader", f, at, leader, e, want)
	}
	for rank, id := range want {
		if k, e := Rank(f, id, at); k != rank || e != api.OK {
			t.Fatal("rank", f, id, at, k, e, want)
		}
	}
}

// P3.3: Leader, Order and Rank, where they are known.
func TestOrder(t *testing.T) {
	for _, c := range []struct {
		f    api.Field
		at   api.Ratio
		want []int
	}{
		{New(), frac(0, 1), nil},
		{New(), frac(-most, most-1), nil},
		{of(pt(0, 3, 4)), frac(9, 1), []int{0}},
		{of(pt(65535, 3, 4)), frac(-most, 1), []int{65535}},
		{example(), frac(-1, 1), []int{2, 5, 1}},
		{example(), frac(0, 1), []int{2, 1, 5}},
		{example(), frac(2047, 1024), []int{2, 1, 5}},
		{example(), frac(2, 1), []int{1, 2, 5}},
		{example(), frac(6143, 1024), []int{1, 2, 5}},
		{example(), frac(6, 1), []int{1, 5, 2}},
		{example(), frac(7, 1), []int{1, 5, 2}},
		// The same place: the greater speed, and with the same speed the lesser ID.
		{of(pt(3, 0, 1), pt(4, 0, 2), pt(5, 0, 1), pt(6, 0, 2)), frac(0, 1), []int{4, 6, 3, 5}},
		{of(pt(3, 0, 1), pt(4, 0, 2), pt(5, 0, 1), pt(6, 0, 2)), frac(1, most), []int{4, 6, 3, 5}},
		{of(pt(3, 0, 1), pt(4, 0, 2), pt(5, 0, 1), pt(6, 0, 2)), frac(-1, most), []int{3, 5, 4, 6}},
		{of(pt(1, 4, 0), pt(2, 6, -1), pt(3, 0, 2), pt(4, -6, 5), pt(9, 0, 2)), frac(2, 1), []int{4, 3, 9, 1, 2}},
		// The same speed: the greater place, whatever the IDs are.
		{of(pt(1, -7, 3), pt(2, 5, 3), pt(3, 0, 3)), frac(1<<30, 1023), []int{2, 3, 1}},
		{of(pt(1, -7, 3), pt(2, 5, 3), pt(3, 0, 3)), frac(-most, 1), []int{2, 3, 1}},
		// Places out of range.
		{of(pt(1, 0, coord-1), pt(2, 0, coord), pt(3, 1, coord)), frac(most, 1), []int{3, 2, 1}},
		{of(pt(1, 0, coord-1), pt(2, 0, coord), pt(3, 1, coord)), frac(-most, 1), []int{1, 3, 2}},
		{of(pt(1, 2, 0), pt(2, 2, 1), pt(3, 3, -coord)), frac(1, most), []int{3, 2, 1}},
	} {
		wantOrder(t, c.f, c.at, c.want)
	}
}

// P3.3: Leader, Order and Rank, against the definition.
func TestOrderByDefinition(t *testing.T) {
	seen := 0
	forTimes(func(f api.Field, at api.Ratio) {
		seen++
		wantOrder(t, f, at, ranked(f, at))
	})
	enough(t, seen)
}

// P3.3: Rank, of IDs that are not there, and of valid and other ones.
func TestRankOfNone(t *testing.T) {
	for _, f := range fields() {
		for _, id := range strangers(f) {
			if k, e := Rank(f, id, frac(1, 2)); k != 0 || e != api.ErrNone {
				t.Fatal(f, id, k, e)
			}
		}
	}
}
