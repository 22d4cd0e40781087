package meet_test

import (
	"cmp"
	"maps"
	"slices"
	"testing"

	"peloton/api"
	"peloton/course"
	"peloton/field"
	"peloton/meet"
	"peloton/ratio"
)

// all is All of a field and times that are valid.
func all(t *testing.T, f api.Field, from, to api.Ratio) []api.Meeting {
	t.Helper()
	l, e := meet.All(f, from, to)
	if e != api.OK {
		t.Fatal(f, from, to, e)
	}
	return l
}

// order is the order of layer 3.
func order(t *testing.T, f api.Field, at api.Ratio) []int {
	t.Helper()
	l, e := field.Order(f, at)
	if e != api.OK {
		t.Fatal(f, at, e)
	}
	return l
}

// ahead is who is ahead by layer 2.
func ahead(t *testing.T, p, q api.Point, at api.Ratio) bool {
	t.Helper()
	ok, e := course.Ahead(p, q, at)
	if e != api.OK {
		t.Fatal(p, q, at, e)
	}
	return ok
}

// isLater reports whether a is later than b, by layer 1.
func isLater(t *testing.T, a, b api.Ratio) bool {
	t.Helper()
	k, e := ratio.Cmp(a, b)
	if e != api.OK {
		t.Fatal(a, b, e)
	}
	return k > 0
}

// P4.4: the meetings between two times are just those of the pairs that are swapped, so there are as many.
func TestMeetingsAreSwaps(t *testing.T) {
	seen := 0
	forSpans(func(f api.Field, _ []told, from, to api.Ratio) {
		l := all(t, f, from, to)
		n, e := meet.Count(f, from, to)
		k, g := meet.Swaps(f, from, to)
		if n != len(l) || k != len(l) || e != api.OK || g != api.OK {
			t.Fatal(f, from, to, n, k, e, g, l)
		}
		if set := swapped(f, from, to); len(set) != len(l) || !maps.Equal(set, pairs(l)) {
			t.Fatal(f, from, to, l, set)
		}
		seen += n
	})
	enough(t, seen)
}

// P4.4: the same, with who is ahead as layer 2 tells it.
func TestSwapsByCourse(t *testing.T) {
	seen := 0
	for _, f := range fields() {
		if len(f.Points) > 20 {
			continue
		}
		at := cuts(meetings(f))
		for i, from := range at {
			to := at[i+(len(at)-i)*2/3]
			set := map[[2]int]bool{}
			for j, q := range f.Points {
				for _, p := range f.Points[:j] {
					if ahead(t, p, q, from) != ahead(t, p, q, to) {
						set[[2]int{p.ID, q.ID}] = true
					}
				}
			}
			seen += len(set)
			if l := all(t, f, from, to); len(set) != len(l) || !maps.Equal(set, pairs(l)) {
				t.Fatal(f, from, to, l, set)
			}
		}
	}
	enough(t, seen)
}

// P4.4: meetings up to a time between, and those from it on, are all.
func TestBothParts(t *testing.T) {
	seen := 0
	forCuts(func(f api.Field, _ []told, at []api.Ratio) {
		for i, from := range at {
			for _, j := range []int{i, i + 1 + i%3, (i + len(at)) / 2} {
				if j >= len(at) || len(f.Points) > 40 && i%4 != 0 {
					continue
				}
				middle, to := at[j], at[j+(len(at)-j)/2]
				before, after, whole := all(t, f, from, middle), all(t, f, middle, to), all(t, f, from, to)
				if !slices.Equal(slices.Concat(before, after), whole) {
					t.Fatal(f, from, middle, to, before, after, whole)
				}
				if len(before) > 0 && len(after) > 0 {
					seen++
				}
			}
		}
	})
	enough(t, seen)
}

// byWay is the order in which the faster ones are ahead; of those with the same speed the one further on, and then the lesser ID.
func byWay(f api.Field) []int {
	points := slices.Clone(f.Points)
	slices.SortFunc(points, func(p, q api.Point) int {
		return cmp.Or(cmp.Compare(q.B, p.B), cmp.Compare(q.A, p.A), cmp.Compare(p.ID, q.ID))
	})
	var list []int
	for _, p := range points {
		list = append(list, p.ID)
	}
	return list
}

// P4.4: from the last meeting on the order does not change any more, and the faster ones are ahead; before it there is another order.
func TestFromTheLastOn(t *testing.T) {
	seen := 0
	forCuts(func(f api.Field, _ []told, at []api.Ratio) {
		last, e := meet.Last(f)
		if e == api.ErrNone {
			last = frac(-most, 1)
		}
		before := slices.DeleteFunc(slices.Clone(at), func(r api.Ratio) bool { return !isLater(t, last, r) })
		for _, r := range before {
			if slices.Equal(order(t, f, r), byWay(f)) {
				t.Fatal(f, last, r)
			}
		}
		for _, r := range append(at[len(before):], last) {
			seen++
			if l := order(t, f, r); !slices.Equal(l, byWay(f)) || len(all(t, f, last, r)) > 0 {
				t.Fatal(f, last, r, l)
			}
		}
	})
	enough(t, seen)
}

// P4.4: Next is the first one of All, up to any time that is not before it, and up to times before it there is none.
func TestNextIsFirst(t *testing.T) {
	seen := 0
	forSpans(func(f api.Field, _ []told, from, to api.Ratio) {
		l := all(t, f, from, to)
		next, e := meet.Next(f, from)
		if e == api.ErrNone || e == api.OK && isLater(t, next.At, to) {
			if len(l) > 0 {
				t.Fatal(f, from, to, next, e, l)
			}
			return
		}
		seen++
		if e != api.OK || len(l) == 0 || l[0] != next {
			t.Fatal(f, from, to, next, e, l)
		}
	})
	enough(t, seen)
	forCuts(func(f api.Field, _ []told, at []api.Ratio) {
		for _, from := range at {
			if next, e := meet.Next(f, from); e == api.OK && all(t, f, from, next.At)[0] != next {
				t.Fatal(f, from, next)
			}
		}
	})
}

// P4.4: stepping from one meeting to the next one comes past all times of meetings, and ends at the last one.
func TestStepByStep(t *testing.T) {
	for _, f := range fields() {
		if len(f.Points) > 40 {
			continue
		}
		var want, got []api.Ratio
		for _, m := range all(t, f, frac(-most, 1), frac(most, 1)) {
			want = append(want, m.At)
		}
		now := frac(-most, 1)
		for len(got) <= len(want) {
			next, e := meet.Next(f, now)
			if e == api.ErrNone {
				break
			}
			now = next.At
			got = append(got, now)
		}
		if !slices.Equal(got, slices.Compact(want)) {
			t.Fatal(f, got, want)
		}
		if last, e := meet.Last(f); e == api.OK && last != now || e != api.OK && len(got) > 0 {
			t.Fatal(f, last, e, now)
		}
	}
}
