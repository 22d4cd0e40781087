package field

import (
	"slices"

	"peloton/api"
	"peloton/course"
	"peloton/ratio"
)

// Leader returns the ID of the point that is ahead of all others at a time.
func Leader(f api.Field, t api.Ratio) (int, api.Errno) {
	if e := checkWithTime(f, t); e != api.OK {
		return 0, e
	}
	if len(f.Points) == 0 {
		return 0, api.ErrEmpty
	}
	return slices.MinFunc(f.Points, leaderFirst(t)).ID, api.OK
}

// Order returns all IDs, each one ahead of all that come behind it at a time.
func Order(f api.Field, t api.Ratio) ([]int, api.Errno) {
	if e := checkWithTime(f, t); e != api.OK {
		return nil, e
	}
	points := slices.Clone(f.Points)
	slices.SortFunc(points, leaderFirst(t))
	ids := make([]int, len(points))
	for i, p := range points {
		ids[i] = p.ID
	}
	return ids, api.OK
}

// Rank returns how many points are ahead of the point with an ID at a time.
func Rank(f api.Field, id int, t api.Ratio) (int, api.Errno) {
	if e := checkWithTime(f, t); e != api.OK {
		return 0, e
	}
	at, found := find(f, id)
	if !found {
		return 0, api.ErrNone
	}
	compare := leaderFirst(t)
	rank := 0
	for _, q := range f.Points {
		if compare(q, f.Points[at]) < 0 {
			rank++
		}
	}
	return rank, api.OK
}

func checkWithTime(f api.Field, t api.Ratio) api.Errno {
	if e := Check(f); e != api.OK {
		return e
	}
	return ratio.Check(t)
}

// leaderFirst compares two valid points at a valid time: the one that is ahead comes first.
func leaderFirst(t api.Ratio) func(p, q api.Point) int {
	return func(p, q api.Point) int {
		// A sort may compare a point with itself, for which course.Ahead has an error.
		if p.ID == q.ID {
			return 0
		}
		// Points and time are valid and the IDs differ, so there is no error.
		if ahead, _ := course.Ahead(p, q, t); ahead {
			return -1
		}
		return 1
	}
}
