package oracle_test

import (
	"math"
	"slices"
	"testing"

	"peloton/api"
	"peloton/oracle"
)

const (
	most  = math.MaxInt64
	least = math.MinInt64
	top   = api.MaxID
	coord = api.MaxCoord
	// The greatest numerator and the greatest denominator of a time that is asked for.
	far  = 1 << 30
	fine = 1 << 10
)

// frac is a fraction as it is written, valid or not.
func frac(num, den int64) api.Ratio {
	return api.Ratio{Num: num, Den: den}
}

// whole is the fraction of a whole number.
func whole(n int64) api.Ratio {
	return frac(n, 1)
}

// pt is a point as it is written, valid or not.
func pt(id int, a, b int64) api.Point {
	return api.Point{ID: id, A: a, B: b}
}

// points is a field of points as they are written, valid or not.
func points(list ...api.Point) api.Field {
	return api.Field{Points: list}
}

// at is a model as it is written, valid or not.
func at(now api.Ratio, f api.Field) api.Model {
	return api.Model{Now: now, Field: f}
}

// hit is the meeting of two points.
func hit(when api.Ratio, i, j int) api.Meeting {
	return api.Meeting{At: when, I: i, J: j}
}

// Asks that are well-formed.

func put(p api.Point) api.Ask {
	return api.Ask{Kind: api.AskPut, Point: p}
}

func take(id int) api.Ask {
	return api.Ask{Kind: api.AskTake, ID: id}
}

func change(p api.Point) api.Ask {
	return api.Ask{Kind: api.AskChange, Point: p}
}

func move(to api.Ratio) api.Ask {
	return api.Ask{Kind: api.AskMove, At: to}
}

func askLead() api.Ask {
	return api.Ask{Kind: api.AskLead}
}

func askClose() api.Ask {
	return api.Ask{Kind: api.AskClose}
}

// Replies.

func fails(e api.Errno) api.Reply {
	return api.Reply{Err: e}
}

func met(list ...api.Meeting) api.Reply {
	return api.Reply{Meetings: list}
}

func leads(id int, place api.Ratio) api.Reply {
	return api.Reply{ID: id, Value: place}
}

func isClosest(i, j int, d api.Ratio) api.Reply {
	return api.Reply{ID: i, Other: j, Value: d}
}

// moving are the points of the chapter's examples: 1 and 5 meet at 0, 1 and 2 at 2, and 2 and 5 at 6.
func moving() api.Field {
	return points(pt(1, 0, 2), pt(2, 6, -1), pt(5, 0, 0))
}

// many is a field of n points whose IDs start with the given one, where the point i has the way of i.
func many(n, first int, way func(i int64) (a, b int64)) api.Field {
	var f api.Field
	for i := range n {
		a, b := way(int64(i))
		f.Points = append(f.Points, pt(first+i, a, b))
	}
	return f
}

// crowd are n points of which i and k meet at i + k, so some pairs meet at the same time.
func crowd(n int) api.Field {
	return many(n, 0, func(i int64) (a, b int64) { return i * i, -i })
}

// level are n points that all meet at 1.
func level(n int) api.Field {
	return many(n, 0, func(i int64) (a, b int64) { return i, -i })
}

// together are n points that are at the same place at all times.
func together(n, first int) api.Field {
	return many(n, first, func(int64) (a, b int64) { return 7, -3 })
}

// spaced are n points that stand, each one as far from the next one.
func spaced(n, first int) api.Field {
	return many(n, first, func(i int64) (a, b int64) { return 5 * i, 0 })
}

func sameModel(m, n api.Model) bool {
	return m.Now == n.Now && slices.Equal(m.Field.Points, n.Field.Points)
}

// sameReply compares replies without oracle.Same.
func sameReply(a, b api.Reply) bool {
	return [3]int{int(a.Err), a.ID, a.Other} == [3]int{int(b.Err), b.ID, b.Other} && a.Value == b.Value && slices.Equal(a.Meetings, b.Meetings)
}

func sameReplies(a, b []api.Reply) bool {
	return slices.EqualFunc(a, b, sameReply)
}

func copyOf(m api.Model) api.Model {
	return at(m.Now, points(slices.Clone(m.Field.Points)...))
}

func copiesOf(list []api.Reply) []api.Reply {
	list = slices.Clone(list)
	for i := range list {
		list[i].Meetings = slices.Clone(list[i].Meetings)
	}
	return list
}

// enough fails if something was seen so seldom that it was hardly tested.
func enough(t *testing.T, seen int) {
	t.Helper()
	if seen < 1000 {
		t.Error("seen only", seen)
	}
}

// wantDo fails unless Do of a valid model returns this one, with this reply.
func wantDo(t *testing.T, m api.Model, a api.Ask, next api.Model, want api.Reply) {
	t.Helper()
	n, r, e := oracle.Do(m, a)
	if !sameModel(n, next) || !sameReply(r, want) || e != api.OK {
		t.Fatal(m, a, "is", n, r, e, "and not", next, want)
	}
}

// wantReply fails unless an ask has this reply, and leaves a valid model as it is.
func wantReply(t *testing.T, m api.Model, a api.Ask, want api.Reply) {
	t.Helper()
	wantDo(t, m, a, m, want)
}

// done is Do of an ask that has no error.
func done(t *testing.T, m api.Model, a api.Ask) (api.Model, api.Reply) {
	t.Helper()
	n, r, e := oracle.Do(m, a)
	if r.Err != api.OK || e != api.OK {
		t.Fatal(m, a, n, r, e)
	}
	return n, r
}

// ran is Run of a list that is not too long.
func ran(t *testing.T, m api.Model, l []api.Ask) (api.Model, []api.Reply) {
	t.Helper()
	n, list, e := oracle.Run(m, l)
	if e != api.OK {
		t.Fatal(m, l, e)
	}
	return n, list
}
