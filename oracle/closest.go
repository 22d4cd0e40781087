package oracle

import (
	"peloton/api"
	"peloton/course"
	"peloton/ratio"
)

// closest is the closest pair of a valid field with two points or more, at a time that is asked for.
func closest(f api.Field, t api.Ratio) api.Pair {
	pair := pairs(f, t)
	best := pair(0, 1)
	for i := range f.Points {
		for j := i + 1; j < len(f.Points); j++ {
			// The pairs come in the order of their IDs, so the first one of those with the same distance stays.
			if p := pair(i, j); isLess(p.Far, best.Far) {
				best = p
			}
		}
	}
	return best
}

// pairs returns a function that tells the pair of the points with two indexes, the lesser one first.
func pairs(f api.Field, t api.Ratio) func(i, j int) api.Pair {
	// At a time that is asked for all places and their differences are in range, so there are no errors.
	places := make([]api.Ratio, len(f.Points))
	for i, p := range f.Points {
		places[i], _ = course.At(p, t)
	}
	return func(i, j int) api.Pair {
		far, _ := ratio.Sub(places[i], places[j])
		far.Num = max(far.Num, -far.Num)
		return api.Pair{I: f.Points[i].ID, J: f.Points[j].ID, Far: far}
	}
}

// isLess compares two valid fractions.
func isLess(a, b api.Ratio) bool {
	// Both are valid, so there is no error.
	k, _ := ratio.Cmp(a, b)
	return k < 0
}
