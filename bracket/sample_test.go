package bracket_test

import (
	"math"
	"slices"
	"testing"

	"peloton/api"
	"peloton/bracket"
)

const (
	most  = math.MaxInt64
	least = math.MinInt64
	top   = api.MaxID
	coord = api.MaxCoord
	// fine is a denominator of times just before and behind others.
	fine = 1<<60 - 1
)

// frac is a fraction as it is written, valid or not.
func frac(num, den int64) api.Ratio {
	return api.Ratio{Num: num, Den: den}
}

// whole is the fraction of a whole number.
func whole(n int64) api.Ratio {
	return frac(n, 1)
}

// pt is a point as it is written, valid or not.
func pt(id int, a, b int64) api.Point {
	return api.Point{ID: id, A: a, B: b}
}

// points is a field of points as they are written, valid or not.
func points(list ...api.Point) api.Field {
	return api.Field{Points: list}
}

func ids(n ...int) []int { return n }

// of is a bracket as it is written, valid or not.
func of(places []int, wins ...int) api.Bracket {
	return api.Bracket{Places: places, Wins: wins}
}

// moving are the points of the chapter's examples: 1 and 5 meet at 0, 1 and 2 at 2, and 2 and 5 at 6.
func moving() api.Field {
	return points(pt(1, 0, 2), pt(2, 6, -1), pt(5, 0, 0))
}

// example is the bracket of the chapter's examples at 0.
func example() api.Bracket {
	return of(ids(1, 2, -1, 5), 2, 2, 5)
}

// many is a field of n points whose IDs start with the given one, where the point i has the way of i.
func many(n, first int, way func(i int64) (a, b int64)) api.Field {
	var f api.Field
	for i := range n {
		a, b := way(int64(i))
		f.Points = append(f.Points, pt(first+i, a, b))
	}
	return f
}

// standing are n points of which each one stands at the place of its ID: so of two of them the one with the greater ID is ahead, at all times.
func standing(n int) api.Field {
	return many(n, 0, func(i int64) (a, b int64) { return i, 0 })
}

// crowd are n points of which i and k meet at i + k; before the first one meets another one those with the greater IDs are ahead.
func crowd(n int) api.Field {
	return many(n, 0, func(i int64) (a, b int64) { return i * i, -i })
}

// level are n points that all meet at 1; before that those with the greater IDs are ahead, and from then on those with the lesser ones.
func level(n int) api.Field {
	return many(n, 0, func(i int64) (a, b int64) { return i, -i })
}

// upTo are the IDs from 0 up to the one before n.
func upTo(n int) []int {
	var list []int
	for id := range n {
		list = append(list, id)
	}
	return list
}

// empties are n places without an ID.
func empties(n int) []int {
	return slices.Repeat(ids(-1), n)
}

func same(a, b api.Bracket) bool {
	return slices.Equal(a.Places, b.Places) && slices.Equal(a.Wins, b.Wins)
}

func clone(b api.Bracket) api.Bracket {
	return of(slices.Clone(b.Places), slices.Clone(b.Wins)...)
}

// with is a bracket after a change of a copy of it.
func with(b api.Bracket, change func(b *api.Bracket)) api.Bracket {
	b = clone(b)
	change(&b)
	return b
}

// without is a field without the points with some IDs.
func without(f api.Field, list ...int) api.Field {
	return api.Field{Points: slices.DeleteFunc(slices.Clone(f.Points), func(p api.Point) bool { return slices.Contains(list, p.ID) })}
}

// only is a field with the points with some IDs alone.
func only(f api.Field, list ...int) api.Field {
	return api.Field{Points: slices.DeleteFunc(slices.Clone(f.Points), func(p api.Point) bool { return !slices.Contains(list, p.ID) })}
}

// enough fails if something was seen so seldom that it was hardly tested.
func enough(t *testing.T, seen int) {
	t.Helper()
	if seen < 1000 {
		t.Error("seen only", seen)
	}
}

// made is Build of places that a bracket may have.
func made(t *testing.T, f api.Field, at api.Ratio, places []int) api.Bracket {
	t.Helper()
	b, e := bracket.Build(f, at, places)
	if e != api.OK {
		t.Fatal(f, at, places, e)
	}
	return b
}

// set is Set of an ID that a place may have.
func set(t *testing.T, b api.Bracket, f api.Field, at api.Ratio, place, id int) (api.Bracket, []int) {
	t.Helper()
	r, changed, e := bracket.Set(b, f, at, place, id)
	if e != api.OK {
		t.Fatal(b, f, at, place, id, e)
	}
	return r, changed
}

// path is Path of a place that is there.
func path(t *testing.T, b api.Bracket, place int) []int {
	t.Helper()
	list, e := bracket.Path(b, place)
	if e != api.OK {
		t.Fatal(b, place, e)
	}
	return list
}

// right is Right of a field that has all IDs.
func right(t *testing.T, b api.Bracket, f api.Field, at api.Ratio) bool {
	t.Helper()
	ok, e := bracket.Right(b, f, at)
	if e != api.OK {
		t.Fatal(b, f, at, e)
	}
	return ok
}
