package ktourn_test

import (
	"slices"
	"testing"

	"peloton/api"
	"peloton/clock"
	"peloton/ktourn"
)

func wantBuild(t *testing.T, f api.Field, at api.Ratio, want api.KTourn, e api.Errno) {
	t.Helper()
	if k, g := ktourn.Build(f, at); !same(k, want) || g != e {
		t.Fatal("build", f, at, k, g, want, e)
	}
}

func wantCheck(t *testing.T, k api.KTourn, e api.Errno) {
	t.Helper()
	if g := ktourn.Check(k); g != e {
		t.Fatal("check", k, g, e)
	}
}

// P15.1: the tournament of the example, as all of it is.
func TestBuildExample(t *testing.T) {
	wantBuild(t, moving(), whole(0), early(), api.OK)
}

// P15.1: the first places are the IDs in increasing order, and then empty ones, up to the least power of 2.
func TestBuildPlaces(t *testing.T) {
	for n := range 65 {
		size := 1
		switch {
		case n > 32:
			size = 64
		case n > 16:
			size = 32
		case n > 8:
			size = 16
		case n > 4:
			size = 8
		case n > 2:
			size = 4
		case n > 1:
			size = 2
		}
		for _, f := range []api.Field{level(n), crowd(n), standing(n), twins(n), many(n, top+1-n, func(i int64) (a, b int64) { return i % 7, i % 5 })} {
			k := build(t, f, frac(7, 2))
			if want := slices.Concat(idsOf(f), empties(size-n)); !slices.Equal(k.Bracket.Places, want) || len(k.Bracket.Wins) != size-1 {
				t.Fatal(n, f, k.Bracket, want)
			}
			wantCheck(t, k, api.OK)
		}
	}
}

// P15.1: the winners are those at the time; of points at one place the faster one wins, and of those with the same course the one with the lesser ID.
func TestBuildWinners(t *testing.T) {
	lone := points(pt(9, 4, -4))
	two := points(pt(2, 1, 1), pt(4, 2, 0))
	seven := many(7, 1, func(i int64) (a, b int64) { return i * 3 % 7, 0 })
	for _, x := range []struct {
		f    api.Field
		at   api.Ratio
		wins []int
	}{
		{api.Field{}, whole(7), nil}, {lone, whole(7), nil},
		{two, whole(0), numbers(4)}, {two, frac(fine-1, fine), numbers(4)}, {two, whole(1), numbers(2)}, {two, whole(2), numbers(2)}, {twins(2), whole(-3), numbers(5)}, {twins(2), whole(most), numbers(5)},
		{moving(), whole(-1), numbers(2, 2, 5)}, {moving(), whole(0), numbers(2, 2, 5)}, {moving(), frac(2*fine-1, fine), numbers(2, 2, 5)}, {moving(), whole(2), numbers(1, 1, 5)}, {moving(), whole(9), numbers(1, 1, 5)},
		{level(4), whole(0), numbers(3, 1, 3)}, {level(4), frac(fine-1, fine), numbers(3, 1, 3)}, {level(4), whole(1), numbers(0, 0, 2)}, {twins(4), whole(1), numbers(5, 5, 7)}, {standing(4), whole(1), numbers(0, 0, 2)},
		// Of five points the last one has three empty places beside it, and comes up to the root's match.
		{level(5), whole(0), numbers(4, 3, 4, 1, 3, 4, -1)}, {level(5), whole(1), numbers(0, 0, 4, 0, 2, 4, -1)},
		// The places are 0, 3, 6, 2, 5, 1, 4 from the point 1 on.
		{seven, whole(5), numbers(3, 3, 5, 2, 3, 5, 7)},
	} {
		k := build(t, x.f, x.at)
		if !slices.Equal(k.Bracket.Wins, x.wins) || k.Clock.Now != x.at || !slices.Equal(k.Clock.Field.Points, x.f.Points) {
			t.Error(x, k)
		}
		wantCheck(t, k, api.OK)
	}
}

// P15.1: the certificates are those of the edges, with the numbers from 0 on in the order of the nodes, and the clock is that of layer 9.
func TestBuildClock(t *testing.T) {
	for _, f := range fields() {
		for _, at := range times() {
			k := build(t, f, at)
			edges := edgesOf(k.Bracket)
			if !sameClock(k.Clock, clockOf(at, f, edges...)) {
				t.Fatal(f, at, k)
			}
			for i, h := range k.Clock.Certs.List {
				if h.Number != i || h.Cert != edges[i] {
					t.Fatal(f, at, k)
				}
			}
			// All but one lose just once.
			if n := max(0, len(f.Points)-1); len(edges) != n || k.Clock.Certs.Next != n {
				t.Fatal(f, at, k)
			}
		}
	}
}

// P15.1: Build, against the definition, of fields and times at all ends, of no points, of one, and of 64.
func TestBuildByDefinition(t *testing.T) {
	for _, f := range fields() {
		for _, at := range times() {
			want, e := made(f, at)
			wantBuild(t, f, at, want, e)
		}
	}
	m := mixer(153)
	for i := range 1500 {
		f := m.field(i % 20)
		switch {
		case i%100 == 0:
			f = m.field(m.pick(31, 32, 33, 63, 64))
		case i%3 == 0:
			f = m.rendezvous(i % 20)
		}
		at := m.time(f)
		want, e := made(f, at)
		wantBuild(t, f, at, want, e)
		wantCheck(t, want, api.OK)
	}
}

// P15.1: the error of the field comes first, and then that of the time.
func TestBuildErrors(t *testing.T) {
	for e, list := range badFields() {
		for _, f := range list {
			for _, at := range slices.Concat(badTimes(), times()) {
				wantBuild(t, f, at, api.KTourn{}, e)
			}
		}
	}
	for _, f := range fields() {
		for _, at := range badTimes() {
			wantBuild(t, f, at, api.KTourn{}, api.ErrBad)
		}
	}
}

// P15.1: a field may have 64 points, and not 65.
func TestBuildMost(t *testing.T) {
	for _, way := range []func(n int) api.Field{level, crowd, standing, twins} {
		k := build(t, way(64), whole(0))
		if len(k.Bracket.Places) != 64 || len(k.Clock.Certs.List) != 63 || clock.Check(k.Clock) != api.OK {
			t.Error(k)
		}
		wantBuild(t, way(65), whole(0), api.KTourn{}, api.ErrMany)
	}
}
