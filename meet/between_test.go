package meet_test

import (
	"slices"
	"testing"

	"peloton/api"
	"peloton/meet"
)

// hit is a meeting as it is written.
func hit(num, den int64, i, j int) api.Meeting {
	return api.Meeting{At: frac(num, den), I: i, J: j}
}

// wantAll fails unless All, Count and Swaps tell these meetings.
func wantAll(t *testing.T, f api.Field, from, to api.Ratio, want []api.Meeting) {
	t.Helper()
	if l, e := meet.All(f, from, to); !slices.Equal(l, want) || e != api.OK {
		t.Fatal("all", f, from, to, l, e, want)
	}
	if n, e := meet.Count(f, from, to); n != len(want) || e != api.OK {
		t.Fatal("count", f, from, to, n, e, want)
	}
	if n, e := meet.Swaps(f, from, to); n != len(want) || e != api.OK {
		t.Fatal("swaps", f, from, to, n, e, want)
	}
}

// crowd are five points of which all are at the place 4 at the time 2, two of them with the same speed.
func crowd() api.Field {
	return of(pt(1, 0, 2), pt(2, 6, -1), pt(3, 4, 0), pt(4, 0, 2), pt(9, -6, 5))
}

// crowded are the meetings of the crowd.
func crowded() []api.Meeting {
	return []api.Meeting{
		hit(2, 1, 1, 2), hit(2, 1, 1, 3), hit(2, 1, 1, 9), hit(2, 1, 2, 3), hit(2, 1, 2, 4),
		hit(2, 1, 2, 9), hit(2, 1, 3, 4), hit(2, 1, 3, 9), hit(2, 1, 4, 9),
	}
}

// P4.1 and P4.2: All, Count and Swaps, where they are known.
func TestBetween(t *testing.T) {
	at0, at2, at6 := hit(0, 1, 1, 5), hit(2, 1, 1, 2), hit(6, 1, 2, 5)
	ends := of(pt(0, coord, 0), pt(7, -coord, 1), pt(api.MaxID, 0, coord))
	slow := of(pt(3, 1, 4), pt(7, 0, 1), pt(8, 3, 0))
	for _, c := range []struct {
		f        api.Field
		from, to api.Ratio
		want     []api.Meeting
	}{
		{example(), frac(-1, 1), frac(6, 1), []api.Meeting{at0, at2, at6}},
		{example(), frac(-most, 1), frac(most, 1), []api.Meeting{at0, at2, at6}},
		{example(), frac(0, 1), frac(5, 1), []api.Meeting{at2}},
		// A meeting exactly at from does not come between, and one exactly at to does.
		{example(), frac(0, 1), frac(6, 1), []api.Meeting{at2, at6}},
		{example(), frac(0, 1), frac(2, 1), []api.Meeting{at2}},
		{example(), frac(-1, 1), frac(0, 1), []api.Meeting{at0}},
		{example(), frac(2, 1), frac(6, 1), []api.Meeting{at6}},
		{example(), frac(2, 1), frac(6*1024-1, 1024), nil},
		{example(), frac(1999, 1000), frac(2, 1), []api.Meeting{at2}},
		{example(), frac(6, 1), frac(most, 1), nil},
		{example(), frac(-most, 1), frac(-1, most), nil},
		{example(), frac(-1, most), frac(1, most), []api.Meeting{at0}},
		// From one time to the same one nothing comes between.
		{example(), frac(2, 1), frac(2, 1), nil},
		{example(), frac(1, 1), frac(1, 1), nil},
		{crowd(), frac(2, 1), frac(2, 1), nil},
		// Several meetings at one time.
		{crowd(), frac(1, 1), frac(2, 1), crowded()},
		{crowd(), frac(2047, 1024), frac(3, 1), crowded()},
		{crowd(), frac(2, 1), frac(3, 1), nil},
		{crowd(), frac(-most, 1), frac(2047, 1024), nil},
		// Before 0, in fractions, and in another order than that of the IDs.
		{slow, frac(-1, 1), frac(3, 1), []api.Meeting{hit(-1, 3, 3, 7), hit(1, 2, 3, 8), hit(3, 1, 7, 8)}},
		{of(pt(1, 9, 0), pt(2, 0, 3), pt(3, 8, 1)), frac(0, 1), frac(4, 1), []api.Meeting{hit(1, 1, 1, 3), hit(3, 1, 1, 2), hit(4, 1, 2, 3)}},
		{ends, frac(-1, 1), frac(2*coord, 1), []api.Meeting{hit(1, 1, 0, api.MaxID), hit(2*coord, 1, 0, 7)}},
		{ends, frac(-most, 1), frac(0, 1), []api.Meeting{hit(-coord, coord-1, 7, api.MaxID)}},
		{of(pt(0, 0, -coord), pt(1, 1, coord)), frac(-1, 2*coord-1), frac(-1, 2*coord), []api.Meeting{hit(-1, 2*coord, 0, 1)}},
		{of(pt(0, 0, -coord), pt(1, 1, coord)), frac(-1, 2*coord), frac(-1, 2*coord+1), nil},
	} {
		wantAll(t, c.f, c.from, c.to, c.want)
	}
}

// P4.1 and P4.2: without points, with one, and with the same speed there are no meetings, at whatever place the points are.
func TestApart(t *testing.T) {
	for _, f := range apart() {
		for _, to := range times() {
			wantAll(t, f, frac(-most, 1), to, nil)
			wantAll(t, f, to, to, nil)
		}
	}
}

// P4.1 and P4.2: MaxPoints points have 2,016 pairs, which meet at once or one after the other.
func TestMostPoints(t *testing.T) {
	atOnce := many(64, 0, func(i int64) (a, b int64) { return 4 - 2*(i*29%64), i * 29 % 64 })
	var want []api.Meeting
	for i := range 64 {
		for j := i + 1; j < 64; j++ {
			want = append(want, hit(2, 1, i, j))
		}
	}
	wantAll(t, atOnce, frac(1, 1), frac(2, 1), want)
	wantAll(t, atOnce, frac(2, 1), frac(3, 1), nil)
	// The points i and j meet at i + j.
	inTurn := many(64, 0, func(i int64) (a, b int64) { return -i * i, i })
	slices.SortFunc(want, func(a, b api.Meeting) int { return (a.I+a.J-b.I-b.J)*64 + a.I - b.I })
	for k := range want {
		want[k].At = frac(int64(want[k].I+want[k].J), 1)
	}
	wantAll(t, inTurn, frac(0, 1), frac(125, 1), want)
	wantAll(t, inTurn, frac(124, 1), frac(125, 1), want[len(want)-1:])
	wantAll(t, inTurn, frac(0, 1), frac(124, 1), want[:len(want)-1])
	wantAll(t, inTurn, frac(1, 1), frac(3, 1), want[1:4])
}

// P4.1 and P4.2: All, Count and Swaps, against the definitions.
func TestBetweenByDefinition(t *testing.T) {
	none, some := 0, 0
	forSpans(func(f api.Field, all []told, from, to api.Ratio) {
		want := between(all, from, to)
		wantAll(t, f, from, to, want)
		if n, e := meet.Swaps(f, from, to); n != len(swapped(f, from, to)) || e != api.OK {
			t.Fatal(f, from, to, n, e)
		}
		if len(want) == 0 {
			none++
		} else {
			some++
		}
	})
	enough(t, none)
	enough(t, some)
}
