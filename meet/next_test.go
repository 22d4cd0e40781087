package meet_test

import (
	"testing"

	"peloton/api"
	"peloton/meet"
)

// none is what there is with an error.
var none = api.Meeting{}

func wantNext(t *testing.T, f api.Field, from api.Ratio, want api.Meeting, e api.Errno) {
	t.Helper()
	if m, g := meet.Next(f, from); m != want || g != e {
		t.Fatal("next", f, from, m, g, want, e)
	}
}

func wantLast(t *testing.T, f api.Field, want api.Ratio, e api.Errno) {
	t.Helper()
	if r, g := meet.Last(f); r != want || g != e {
		t.Fatal("last", f, r, g, want, e)
	}
}

// P4.3: Next, where it is known.
func TestNext(t *testing.T) {
	late := of(pt(1, 9, 0), pt(2, 0, 3), pt(3, 8, 1))
	for _, c := range []struct {
		f    api.Field
		from api.Ratio
		want api.Meeting
		e    api.Errno
	}{
		{example(), frac(-most, 1), hit(0, 1, 1, 5), api.OK},
		{example(), frac(-1, most), hit(0, 1, 1, 5), api.OK},
		// A meeting exactly at from is not the next one.
		{example(), frac(0, 1), hit(2, 1, 1, 2), api.OK},
		{example(), frac(1999, 1000), hit(2, 1, 1, 2), api.OK},
		{example(), frac(2, 1), hit(6, 1, 2, 5), api.OK},
		{example(), frac(6*1024-1, 1024), hit(6, 1, 2, 5), api.OK},
		{example(), frac(6, 1), none, api.ErrNone},
		{example(), frac(most, 1), none, api.ErrNone},
		// The earliest one, whatever its IDs are.
		{late, frac(0, 1), hit(1, 1, 1, 3), api.OK},
		{late, frac(1, 1), hit(3, 1, 1, 2), api.OK},
		{late, frac(3, 1), hit(4, 1, 2, 3), api.OK},
		// Of several at one time the first one by I, and then by J.
		{crowd(), frac(1, 1), hit(2, 1, 1, 2), api.OK},
		{of(pt(3, 0, 2), pt(4, 0, 2), pt(5, 0, 2), pt(9, 4, 0)), frac(-9, 1), hit(2, 1, 3, 9), api.OK},
		{of(pt(3, 0, 2), pt(4, 6, -1), pt(5, 0, 2), pt(9, 4, 0)), frac(-9, 1), hit(2, 1, 3, 4), api.OK},
		{of(pt(1, 100, 0), pt(2, 4, 0), pt(3, 0, 2), pt(4, 4, 0)), frac(0, 1), hit(2, 1, 2, 3), api.OK},
		{crowd(), frac(2, 1), none, api.ErrNone},
	} {
		wantNext(t, c.f, c.from, c.want, c.e)
	}
}

// P4.3: Last, where it is known.
func TestLast(t *testing.T) {
	for _, c := range []struct {
		f    api.Field
		want api.Ratio
	}{
		{example(), frac(6, 1)},
		{of(pt(1, 0, 2), pt(2, 6, -1)), frac(2, 1)},
		{of(pt(1, 0, 2), pt(5, 0, 0)), frac(0, 1)},
		{crowd(), frac(2, 1)},
		// All of them before 0, the last one first, in the middle, or at the end of the pairs.
		{of(pt(1, 0, 2), pt(2, -5, 1), pt(3, -18, -1)), frac(-5, 1)},
		{of(pt(1, 0, 2), pt(2, -18, -1), pt(3, -5, 1)), frac(-5, 1)},
		{of(pt(1, -18, -1), pt(2, -5, 1), pt(3, 0, 2)), frac(-5, 1)},
		{of(pt(0, coord, 0), pt(1, -coord, 1), pt(2, 0, -coord)), frac(2*coord, 1)},
		{of(pt(0, 0, -coord), pt(1, 1, coord)), frac(-1, 2*coord)},
	} {
		wantLast(t, c.f, c.want, api.OK)
	}
}

// P4.3: ErrNone of Next and of Last, where no two points meet.
func TestNoneToCome(t *testing.T) {
	for _, f := range apart() {
		wantLast(t, f, frac(0, 0), api.ErrNone)
		for _, from := range times() {
			wantNext(t, f, from, none, api.ErrNone)
		}
	}
}

// P4.3: Next and Last, against the definitions.
func TestNextAndLastByDefinition(t *testing.T) {
	found, gone := 0, 0
	forCuts(func(f api.Field, all []told, at []api.Ratio) {
		if len(all) > 0 {
			wantLast(t, f, all[len(all)-1].m.At, api.OK)
		} else {
			wantLast(t, f, frac(0, 0), api.ErrNone)
		}
		for _, from := range at {
			if l := between(all, from, frac(most, 1)); len(l) > 0 {
				found++
				wantNext(t, f, from, l[0], api.OK)
			} else {
				gone++
				wantNext(t, f, from, none, api.ErrNone)
			}
		}
	})
	enough(t, found)
	enough(t, gone)
}
