package crest_test

import (
	"slices"
	"testing"

	"peloton/api"
	"peloton/crest"
)

// wantCrest fails unless Of returns this crest.
func wantCrest(t *testing.T, f api.Field, from api.Ratio, want []api.Lead) {
	t.Helper()
	if l, e := crest.Of(f, from); !slices.Equal(l, want) || e != api.OK {
		t.Fatal("of", f, from, l, e, want)
	}
}

// P5.1: Of, where it is known.
func TestOf(t *testing.T) {
	// All are at the place 4 at the time 2; 4 leads before, and 3 and 8, which are at the same place at all times, behind.
	crowd := of(pt(2, 2, 1), pt(3, 0, 2), pt(4, 6, -1), pt(6, 4, 0), pt(8, 0, 2))
	ends := of(pt(0, coord, 0), pt(7, -coord, 1), pt(api.MaxID, 0, coord))
	for _, c := range []struct {
		f    api.Field
		from api.Ratio
		want []api.Lead
	}{
		{example(), frac(-1, 1), row(lead(2, -1, 1), lead(1, 2, 1))},
		{example(), always, row(lead(2, -most, 1), lead(1, 2, 1))},
		{example(), frac(1999, 1000), row(lead(2, 1999, 1000), lead(1, 2, 1))},
		// A change exactly at the time itself is the first lead.
		{example(), frac(2, 1), row(lead(1, 2, 1))},
		{example(), frac(3, 1), row(lead(1, 3, 1))},
		{example(), frac(most, 1), row(lead(1, most, 1))},
		// A meeting behind the leader is no change.
		{of(pt(2, 6, -1), pt(5, 0, 0)), frac(-1, 1), row(lead(2, -1, 1), lead(5, 6, 1))},
		{of(pt(1, 9, 0), pt(2, 0, 3), pt(3, 8, 1)), frac(0, 1), row(lead(1, 0, 1), lead(3, 1, 1), lead(2, 4, 1))},
		// Several meet the leader at once: the fastest one goes on, and of the fastest ones the one with the lesser ID.
		{crowd, frac(0, 1), row(lead(4, 0, 1), lead(3, 2, 1))},
		{crowd, frac(2, 1), row(lead(3, 2, 1))},
		{of(pt(1, 8, -3), pt(2, 0, 4), pt(3, 8, 0), pt(4, 0, 4)), frac(1, 1), row(lead(3, 1, 1), lead(2, 2, 1))},
		// Of two that meet the leader the one that does so first, though the other one is faster.
		{of(pt(1, 0, 0), pt(2, -9, 3), pt(3, -2, 1)), frac(0, 1), row(lead(1, 0, 1), lead(3, 2, 1), lead(2, 7, 2))},
		{of(pt(1, 0, 0), pt(2, -6, 3), pt(3, -4, 1)), frac(0, 1), row(lead(1, 0, 1), lead(2, 2, 1))},
		// One point, and points that do not meet.
		{of(pt(7, 5, -3)), frac(-1, 3), row(lead(7, -1, 3))},
		{of(pt(0, 5, 5)), frac(4, 1), row(lead(0, 4, 1))},
		{of(pt(1, 0, 2), pt(2, 6, 2)), frac(0, 1), row(lead(2, 0, 1))},
		{of(pt(1, 6, 2), pt(2, 6, 2)), frac(0, 1), row(lead(1, 0, 1))},
		{many(64, 5, func(int64) (a, b int64) { return 3, -3 }), frac(1, 9), row(lead(5, 1, 9))},
		// Both ends of all that is limited.
		{ends, frac(-1, 1), row(lead(0, -1, 1), lead(api.MaxID, 1, 1))},
		{of(pt(0, coord, 0), pt(1, -coord, 1)), frac(1, most), row(lead(0, 1, most), lead(1, 2*coord, 1))},
		{of(pt(0, 0, -coord), pt(1, 1, coord), pt(2, 0, -coord)), always, row(lead(0, -most, 1), lead(1, -1, 2*coord))},
		{of(pt(1, 1, -coord), pt(2, 0, coord)), frac(1, 2*coord+1), row(lead(1, 1, 2*coord+1), lead(2, 1, 2*coord))},
		{of(pt(1, 1, -coord), pt(2, 0, coord)), frac(1, 2*coord), row(lead(2, 1, 2*coord))},
	} {
		wantCrest(t, c.f, c.from, c.want)
	}
}

// P5.1: of MaxPoints points each one may lead.
func TestAllLead(t *testing.T) {
	want := row(lead(0, -1, 1))
	for i := int64(1); i < 64; i++ {
		want = append(want, lead(int(i), 2*i-1, 1))
	}
	wantCrest(t, inTurn(64), frac(-1, 1), want)
	wantCrest(t, inTurn(63), frac(-1, 1), want[:63])
	want[40].From = frac(159, 2)
	wantCrest(t, inTurn(64), frac(159, 2), want[40:])
}

// P5.1: Of, against the definition.
func TestOfByDefinition(t *testing.T) {
	seen := 0
	forCrests(func(f api.Field, crest func(api.Ratio) []api.Lead, at []api.Ratio) {
		for _, from := range at {
			want := crest(from)
			wantCrest(t, f, from, want)
			seen += len(want) - 1
		}
	})
	enough(t, seen)
}
