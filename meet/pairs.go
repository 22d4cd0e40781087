package meet

import (
	"cmp"
	"iter"

	"peloton/api"
	"peloton/course"
	"peloton/ratio"
)

// pairs goes over all pairs of points of a valid field, in each of them the point with the lesser ID first.
func pairs(f api.Field) iter.Seq2[api.Point, api.Point] {
	return func(yield func(p, q api.Point) bool) {
		for i, p := range f.Points {
			for _, q := range f.Points[i+1:] {
				if !yield(p, q) {
					return
				}
			}
		}
	}
}

// meetings goes over all meetings of a valid field, in the order of its pairs.
func meetings(f api.Field) iter.Seq[api.Meeting] {
	return func(yield func(m api.Meeting) bool) {
		for p, q := range pairs(f) {
			// The points are valid and their IDs differ, so the only error is that they have the same speed.
			at, e := course.Meet(p, q)
			if e == api.OK && !yield(api.Meeting{At: at, I: p.ID, J: q.ID}) {
				return
			}
		}
	}
}

// after goes over the meetings that are later than a valid time.
func after(f api.Field, from api.Ratio) iter.Seq[api.Meeting] {
	return only(meetings(f), func(m api.Meeting) bool { return compareTimes(m.At, from) > 0 })
}

// between goes over the meetings that come between two valid times.
func between(f api.Field, from, to api.Ratio) iter.Seq[api.Meeting] {
	return only(after(f, from), func(m api.Meeting) bool { return compareTimes(m.At, to) <= 0 })
}

// only goes over those meetings for which keep is true.
func only(all iter.Seq[api.Meeting], keep func(m api.Meeting) bool) iter.Seq[api.Meeting] {
	return func(yield func(m api.Meeting) bool) {
		for m := range all {
			if keep(m) && !yield(m) {
				return
			}
		}
	}
}

// first returns the meeting that comes first by an order, and whether there is one.
func first(all iter.Seq[api.Meeting], order func(a, b api.Meeting) int) (api.Meeting, bool) {
	var best api.Meeting
	found := false
	for m := range all {
		if !found || order(m, best) < 0 {
			best, found = m, true
		}
	}
	return best, found
}

// inOrder compares two meetings by their times, then by I, and then by J.
func inOrder(a, b api.Meeting) int {
	return cmp.Or(compareTimes(a.At, b.At), cmp.Compare(a.I, b.I), cmp.Compare(a.J, b.J))
}

func latestFirst(a, b api.Meeting) int {
	return compareTimes(b.At, a.At)
}

// compareTimes compares two valid times.
func compareTimes(a, b api.Ratio) int {
	// Both are valid, so there is no error.
	k, _ := ratio.Cmp(a, b)
	return k
}
