package field

import (
	"slices"
	"testing"

	"peloton/api"
)

// order is Order of a field and a time that are valid.
func order(t *testing.T, f api.Field, at api.Ratio) []int {
	t.Helper()
	l, e := Order(f, at)
	if e != api.OK {
		t.Fatal(f, at, e)
	}
	return l
}

// P3.4: the order has each ID once, the rank is the place in it, and the leader is the first one.
func TestOrderRankAndLeaderAgree(t *testing.T) {
	seen := 0
	forTimes(func(f api.Field, at api.Ratio) {
		l := order(t, f, at)
		if !slices.Equal(slices.Sorted(slices.Values(l)), ids(f)) {
			t.Fatal(f, at, l)
		}
		for i, id := range l {
			if k, e := Rank(f, id, at); k != i || e != api.OK {
				t.Fatal(f, at, l, id, k, e)
			}
			seen++
		}
		if len(l) == 0 {
			return
		}
		if leader, e := Leader(f, at); leader != l[0] || e != api.OK {
			t.Fatal(f, at, l, leader, e)
		}
	})
	enough(t, seen)
}

// P3.4: putting a point in and taking it out leaves the field as it was.
func TestPutAndTake(t *testing.T) {
	seen := 0
	for _, f := range fields() {
		for _, id := range strangers(f) {
			g, e := Put(f, pt(id, -2, 5))
			if e != api.OK {
				continue
			}
			seen++
			if h, e := Take(g, id); !same(h, f) || e != api.OK {
				t.Fatal(f, id, g, h, e)
			}
		}
	}
	enough(t, seen)
}

// P3.4: one point less, or one more, changes nothing among the others.
func TestOthersKeepTheirOrder(t *testing.T) {
	seen := 0
	forTimes(func(f api.Field, at api.Ratio) {
		l := order(t, f, at)
		for i, id := range l {
			if len(l) > 20 && i%9 != 0 {
				continue
			}
			g, e := Take(f, id)
			if e != api.OK {
				t.Fatal(f, id, e)
			}
			seen++
			if rest := order(t, g, at); !slices.Equal(rest, slices.Delete(slices.Clone(l), i, i+1)) {
				t.Fatal(f, id, at, l, rest)
			}
		}
	})
	enough(t, seen)
}

// P3.4: without some of the points, the order is what is left of it.
func TestOrderOfSome(t *testing.T) {
	m := mixer(8)
	seen := 0
	forTimes(func(f api.Field, at api.Ratio) {
		gone := map[int]bool{}
		var g api.Field
		for _, p := range f.Points {
			if m.below(3) == 0 {
				gone[p.ID] = true
			} else {
				g.Points = append(g.Points, p)
			}
		}
		seen += len(gone)
		left := slices.DeleteFunc(order(t, f, at), func(id int) bool { return gone[id] })
		if rest := order(t, g, at); !slices.Equal(rest, left) {
			t.Fatal(f, gone, at, left, rest)
		}
	})
	enough(t, seen)
}

// P3.4: a change of a point changes nothing among the others.
func TestOthersKeepTheirOrderInAChange(t *testing.T) {
	seen := 0
	forTimes(func(f api.Field, at api.Ratio) {
		if len(f.Points) == 0 {
			return
		}
		id := f.Points[seen%len(f.Points)].ID
		g, e := Change(f, pt(id, int64(seen%5), int64(2-seen%7)))
		if e != api.OK {
			t.Fatal(f, id, e)
		}
		seen++
		other := func(l []int) []int { return slices.DeleteFunc(l, func(i int) bool { return i == id }) }
		if a, b := other(order(t, f, at)), other(order(t, g, at)); !slices.Equal(a, b) {
			t.Fatal(f, g, at, a, b)
		}
	})
	enough(t, seen)
}
