package oracle_test

import (
	"testing"

	"peloton/api"
	"peloton/oracle"
)

func wantClosest(t *testing.T, f api.Field, when api.Ratio, i, j int, d api.Ratio, want api.Errno) {
	t.Helper()
	if x, y, r, e := oracle.Closest(f, when); x != i || y != j || r != d || e != want {
		t.Fatal(f, when, "is", x, y, r, e, "and not", i, j, d, want)
	}
}

// wantNoClosest fails unless Closest has this error, and nothing else.
func wantNoClosest(t *testing.T, f api.Field, when api.Ratio, want api.Errno) {
	t.Helper()
	wantClosest(t, f, when, 0, 0, frac(0, 0), want)
}

// P12.3: Closest tells the closest pair of each field at each time that is asked for, and ErrEmpty if there are fewer than two points.
func TestClosest(t *testing.T) {
	for _, f := range fields() {
		for i, when := range asked() {
			if len(f.Points) < 20 || i%4 == 0 {
				r := closestReply(f, when)
				wantClosest(t, f, when, r.ID, r.Other, r.Value, r.Err)
			}
		}
	}
}

// P12.3: of pairs with the same distance the one with the least i comes first, and of these the one with the least j, wherever they are.
func TestClosestOfEqual(t *testing.T) {
	stand := func(places ...int64) api.Field {
		return many(len(places), 10, func(i int64) (a, b int64) { return places[i], 0 })
	}
	for _, x := range []struct {
		f       api.Field
		i, j, d int
	}{
		{stand(0, 3, 6, 9), 10, 11, 3}, {stand(9, 6, 3, 0), 10, 11, 3}, {stand(0, 9, 12, 3), 10, 13, 3}, {stand(3, 9, 0, 6), 10, 12, 3}, {stand(0, 30, 3, -3), 10, 12, 3},
		{stand(0, 30, -3, 3), 10, 12, 3}, {stand(50, 0, 30, 33, 3), 11, 14, 3}, {stand(50, 30, 0, 3, 33), 11, 14, 3}, {stand(50, 30, 0, 33, 3), 11, 13, 3},
		{stand(5, 1, 5, 1, 5), 10, 12, 0}, {stand(9, 5, 1, 1, 5), 11, 14, 0}, {stand(7, 7, 7), 10, 11, 0}, {stand(0, 9, 18, 18), 12, 13, 0}, {stand(0, 9, 1, 18, 18), 13, 14, 0},
		{stand(0, 3, 100, 102), 12, 13, 2}, {stand(0, 3, 1), 10, 12, 1}, {stand(0, 3, 2), 11, 12, 1}, {stand(-5, 5, -4, 6), 10, 12, 1},
	} {
		wantClosest(t, x.f, whole(0), x.i, x.j, whole(int64(x.d)), api.OK)
	}
	for i := range 63 {
		// All pairs of neighbours are 5 apart but those of one point.
		f := spaced(64, 0)
		f.Points[i].A += 2
		wantClosest(t, f, whole(far), i, i+1, whole(3), api.OK)
	}
	for n := 2; n <= 64; n++ {
		wantClosest(t, spaced(n, top-63), frac(1, 3), top-63, top-62, whole(5), api.OK)
	}
}

// P12.3: distances are exact, with both ends of all that is limited, and the order of two that are nearly the same is that of their numbers.
func TestClosestIsExact(t *testing.T) {
	wantClosest(t, points(pt(0, coord, coord), pt(top, -coord, -coord)), whole(far), 0, top, whole(2*coord+2*coord*far), api.OK)
	wantClosest(t, points(pt(0, -coord, coord), pt(top, coord, -coord)), whole(-far), 0, top, whole(2*coord+2*coord*far), api.OK)
	wantClosest(t, points(pt(0, -coord, coord), pt(top, coord, -coord)), frac(far, fine-1), 0, top, frac(2*coord*far-2*coord*(fine-1), fine-1), api.OK)
	wantClosest(t, points(pt(0, -coord, coord), pt(top, coord, 1-coord)), frac(-far, fine-1), 0, top, frac((2*coord-1)*far+2*coord*(fine-1), fine-1), api.OK)
	// At 1023/1024 the points 2 and 3 are nearer by 1/1024 than 1 and 2.
	wantClosest(t, points(pt(1, 0, 0), pt(2, 4, 0), pt(3, 7, 1)), frac(fine-1, fine), 2, 3, frac(4*fine-1, fine), api.OK)
	wantClosest(t, points(pt(1, 0, 0), pt(2, 4, 0), pt(3, 7, 1)), whole(1), 1, 2, whole(4), api.OK)
	wantClosest(t, points(pt(1, 0, 0), pt(2, 4, 0), pt(3, 7, 1)), frac(fine, fine-1), 1, 2, whole(4), api.OK)
	wantClosest(t, points(pt(1, 0, 0), pt(2, 3, 3)), frac(-1, 3), 1, 2, whole(2), api.OK)
	wantClosest(t, points(pt(1, 0, 0), pt(2, 3, 3)), whole(-1), 1, 2, whole(0), api.OK)
	wantClosest(t, points(pt(1, 0, 0), pt(2, 3, 3)), whole(-3), 1, 2, whole(6), api.OK)
}

// P12.3 and R1: the error of the field comes first, then those of the time, and then ErrEmpty.
func TestClosestErrors(t *testing.T) {
	for e, list := range noFields() {
		for _, f := range list {
			for _, when := range []api.Ratio{whole(0), frac(1, 0), whole(most)} {
				wantNoClosest(t, f, when, e)
			}
		}
	}
	for _, f := range fields() {
		for _, when := range noTimes() {
			wantNoClosest(t, f, when, api.ErrBad)
		}
		for _, when := range notAsked() {
			wantNoClosest(t, f, when, api.ErrArg)
		}
	}
	for _, when := range asked() {
		wantNoClosest(t, api.Field{}, when, api.ErrEmpty)
		wantNoClosest(t, points(pt(1, 2, 3)), when, api.ErrEmpty)
		wantNoClosest(t, points(pt(0, 0, 0)), when, api.ErrEmpty)
	}
}
