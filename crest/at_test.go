package crest_test

import (
	"slices"
	"testing"

	"peloton/api"
	"peloton/crest"
)

func wantAt(t *testing.T, l []api.Lead, at api.Ratio, want int, e api.Errno) {
	t.Helper()
	if id, g := crest.At(l, at); id != want || g != e {
		t.Fatal("at", l, at, id, g, want, e)
	}
}

// P5.2: At, where it is known.
func TestAt(t *testing.T) {
	of3 := row(lead(2, -1, 1), lead(1, 2, 1), lead(2, 7, 3))
	far := row(lead(api.MaxID, -most, 1), lead(0, most, 1))
	for _, c := range []struct {
		l    []api.Lead
		at   api.Ratio
		want int
		e    api.Errno
	}{
		// Exactly at each lead, and just before it.
		{of3, frac(-1, 1), 2, api.OK},
		{of3, frac(-most, most-1), 0, api.ErrPast},
		{of3, frac(1-most, most), 2, api.OK},
		{of3, frac(0, 1), 2, api.OK},
		{of3, frac(1999, 1000), 2, api.OK},
		{of3, frac(2, 1), 1, api.OK},
		{of3, frac(2001, 1000), 1, api.OK},
		{of3, frac(7, 3), 2, api.OK},
		{of3, frac(2333, 1000), 1, api.OK},
		{of3, frac(1167, 500), 2, api.OK},
		// Before the first one, and behind the last one.
		{of3, frac(-2, 1), 0, api.ErrPast},
		{of3, frac(-most, 1), 0, api.ErrPast},
		{of3, frac(most, 1), 2, api.OK},
		{far, frac(-most, 1), api.MaxID, api.OK},
		{far, frac(most-1, 1), api.MaxID, api.OK},
		{far, frac(most, 1), 0, api.OK},
		{row(lead(9, 1, most)), frac(0, 1), 0, api.ErrPast},
		{row(lead(9, 1, most)), frac(1, most), 9, api.OK},
		{row(lead(0, 3, 1)), frac(3, 1), 0, api.OK},
		{row(lead(0, 3, 1)), frac(2, 1), 0, api.ErrPast},
	} {
		wantAt(t, c.l, c.at, c.want, c.e)
	}
}

// P5.2: a crest with MaxCrest leads has each one of them.
func TestAtOfMost(t *testing.T) {
	l := steps(300)
	for i := range int64(300) {
		wantAt(t, l, frac(i, 1), l[i].ID, api.OK)
		wantAt(t, l, frac(2*i+1, 2), l[i].ID, api.OK)
	}
	wantAt(t, l, frac(-1, 2), 0, api.ErrPast)
	wantAt(t, steps(301), frac(5, 1), 0, api.ErrBad)
}

// P5.2: At, against the definition.
func TestAtByDefinition(t *testing.T) {
	past, found := 0, 0
	look := func(l []api.Lead) {
		for _, at := range cuts(l) {
			want, ok := leadAt(l, at)
			e := api.OK
			if !ok {
				e = api.ErrPast
				past++
			} else {
				found++
			}
			wantAt(t, l, at, want, e)
		}
	}
	for _, l := range goodCrests() {
		look(l)
	}
	forPairs(func(f api.Field, a, b []api.Lead) {
		look(a)
	})
	enough(t, past)
	enough(t, found)
}

// P5.2: a crest that is not valid is ErrBad, and so is a time, whatever the other one is.
func TestAtOfBad(t *testing.T) {
	at := append(badTimes(), times()...)
	for _, l := range badCrests() {
		for _, r := range at {
			wantAt(t, l, r, 0, api.ErrBad)
		}
	}
	for _, l := range slices.Concat(badCrests(), goodCrests()) {
		for _, r := range badTimes() {
			wantAt(t, l, r, 0, api.ErrBad)
		}
	}
}
