package bracket

import (
	"slices"

	"peloton/api"
	"peloton/course"
)

// none stands where there is no ID.
const none = -1

// winnerAt returns a function that tells the winner of two IDs at a valid time: both are those of points or none, and only none may be both.
func winnerAt(points map[int]api.Point, t api.Ratio) func(a, b int) int {
	return func(a, b int) int {
		if a == none {
			return b
		}
		if b == none {
			return a
		}
		// Points and time are valid and the IDs differ, so there is no error.
		if ahead, _ := course.Ahead(points[a], points[b], t); ahead {
			return a
		}
		return b
	}
}

// replay makes the winner of each node of a path, from below, that of the IDs of its children, and returns the nodes whose winner is another one than before.
func replay(b api.Bracket, place int, best func(a, b int) int) []int {
	var changed []int
	for i := range above(len(b.Wins) + place) {
		id := best(children(b.Wins, b.Places, i))
		if id != b.Wins[i] {
			b.Wins[i] = id
			changed = append(changed, i)
		}
	}
	return changed
}

// placesFit reports whether all places have IDs, or none, and no two the same one.
func placesFit(places []int) bool {
	isNoID := func(id int) bool { return id < none || id > api.MaxID }
	return !slices.ContainsFunc(places, isNoID) && !hasTwice(places)
}

// winsFit reports whether the winner of each inner node is the ID of one of its children, and none only if both have none.
func winsFit(b api.Bracket) bool {
	for i, id := range b.Wins {
		left, right := children(b.Wins, b.Places, i)
		// None, as the ID of one child, is that of both just if they have the same one.
		if id != left && id != right || id == none && left != right {
			return false
		}
	}
	return true
}

// hasTwice reports whether two places have the same ID.
func hasTwice(places []int) bool {
	seen := make(map[int]bool, len(places))
	for _, id := range places {
		if id != none && seen[id] {
			return true
		}
		seen[id] = true
	}
	return false
}

// byID are the points of a field by their IDs.
func byID(f api.Field) map[int]api.Point {
	points := make(map[int]api.Point, len(f.Points))
	for _, p := range f.Points {
		points[p.ID] = p
	}
	return points
}

// haveAll reports whether each place has the ID of a point, or none.
func haveAll(points map[int]api.Point, places []int) bool {
	isMissing := func(id int) bool {
		_, there := points[id]
		return id != none && !there
	}
	return !slices.ContainsFunc(places, isMissing)
}
