package oracle_test

import (
	"slices"
	"testing"

	"peloton/api"
)

// newPoints are points with both ends of all that is limited.
func newPoints(id int) []api.Point {
	return []api.Point{pt(id, 0, 0), pt(id, 3, -4), pt(id, coord, coord), pt(id, -coord, -coord), pt(id, -coord, coord), pt(id, coord, 1)}
}

// P12.2: AskPut puts a point in where its ID belongs; the time stays.
func TestPut(t *testing.T) {
	seen := 0
	for _, m := range goodModels() {
		if len(m.Field.Points) == 64 {
			continue
		}
		for _, id := range strangers(m.Field) {
			for _, p := range newPoints(id) {
				if isPoint(p) {
					wantDo(t, m, put(p), at(m.Now, with(m.Field, p)), api.Reply{})
					seen++
				}
			}
		}
	}
	enough(t, seen)
	wantDo(t, at(whole(1), level(63)), put(pt(63, 1, 2)), at(whole(1), points(append(level(63).Points, pt(63, 1, 2))...)), api.Reply{})
}

// P12.2: a point that is not valid is ErrBad, also where its ID is there, and where there is no room.
func TestPutOfNoPoint(t *testing.T) {
	for _, f := range append(fields(), points(pt(2, 1, 1)), many(64, 2, func(i int64) (a, b int64) { return i, i })) {
		for _, p := range noPoints() {
			wantReply(t, at(whole(1), f), put(p), fails(api.ErrBad))
		}
	}
}

// P12.2: an ID that is there is ErrTwice, also where there is no room; a new one is ErrFull if there are 64 points.
func TestPutWithoutRoom(t *testing.T) {
	for _, m := range goodModels() {
		for _, p := range m.Field.Points {
			wantReply(t, m, put(p), fails(api.ErrTwice))
			wantReply(t, m, put(pt(p.ID, 1-p.A/2, p.B/2)), fails(api.ErrTwice))
		}
		if len(m.Field.Points) == 64 {
			for _, id := range strangers(m.Field) {
				want := fails(api.ErrFull)
				if id < 0 || id > top {
					want = fails(api.ErrBad)
				}
				wantReply(t, m, put(pt(id, 1, 1)), want)
			}
		}
	}
}

// P12.2: AskTake takes the point with an ID out, also the last one; ErrNone if there is none, also where the ID is that of no point.
func TestTake(t *testing.T) {
	for _, m := range goodModels() {
		for i, p := range m.Field.Points {
			rest := slices.Concat(m.Field.Points[:i], m.Field.Points[i+1:])
			wantDo(t, m, take(p.ID), at(m.Now, points(rest...)), api.Reply{})
		}
		for _, id := range strangers(m.Field) {
			wantReply(t, m, take(id), fails(api.ErrNone))
		}
	}
	wantDo(t, at(whole(1), points(pt(0, 4, 4))), take(0), at(whole(1), api.Field{}), api.Reply{})
	wantReply(t, at(whole(1), api.Field{}), take(0), fails(api.ErrNone))
}

// P12.2: AskChange puts a point in the place of the one with its ID, whatever was its way, also where there are 64 points.
func TestChange(t *testing.T) {
	for _, m := range goodModels() {
		for i, p := range m.Field.Points {
			for _, q := range append(newPoints(p.ID), p) {
				list := slices.Clone(m.Field.Points)
				list[i] = q
				wantDo(t, m, change(q), at(m.Now, points(list...)), api.Reply{})
			}
		}
	}
}

// P12.2: a point that is not valid is ErrBad, whether its ID is there or not; a valid one whose ID is not there is ErrNone.
func TestChangeOfNone(t *testing.T) {
	for _, f := range append(fields(), points(pt(2, 1, 1))) {
		m := at(whole(1), f)
		for _, p := range noPoints() {
			wantReply(t, m, change(p), fails(api.ErrBad))
		}
		for _, id := range strangers(f) {
			want := fails(api.ErrNone)
			if id < 0 || id > top {
				want = fails(api.ErrBad)
			}
			wantReply(t, m, change(pt(id, 1, 1)), want)
			wantReply(t, m, change(pt(id, 1, coord+1)), fails(api.ErrBad))
		}
	}
}
