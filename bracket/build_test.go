package bracket_test

import (
	"slices"
	"testing"

	"peloton/api"
	"peloton/bracket"
)

func wantBuild(t *testing.T, f api.Field, at api.Ratio, places []int, want api.Bracket, e api.Errno) {
	t.Helper()
	if b, g := bracket.Build(f, at, places); !same(b, want) || g != e {
		t.Fatal("build", f, at, places, b, g, want, e)
	}
}

func wantNoBuild(t *testing.T, f api.Field, at api.Ratio, places []int, e api.Errno) {
	t.Helper()
	wantBuild(t, f, at, places, api.Bracket{}, e)
}

// The chapter's examples, and the one of the whole.
func TestExamples(t *testing.T) {
	wantBuild(t, moving(), whole(0), ids(1, 2, -1, 5), of(ids(1, 2, -1, 5), 2, 2, 5), api.OK)
	wantWinner(t, example(), 2, api.OK)
	wantRight(t, example(), moving(), whole(0), true, api.OK)
	wantPath(t, example(), 3, ids(2, 0), api.OK)
	// After 2 went away from the place 1, 1 wins, at the nodes 1 and 0.
	wantSet(t, example(), moving(), whole(0), 1, -1, of(ids(1, -1, -1, 5), 1, 1, 5), ids(1, 0), api.OK)
}

// P10.1: Build of a few places, at times around which points meet.
func TestBuild(t *testing.T) {
	for _, x := range []struct {
		at     api.Ratio
		places []int
		wins   []int
	}{
		{whole(-1), ids(1, 2, -1, 5), ids(2, 2, 5)}, {whole(2), ids(1, 2, -1, 5), ids(1, 1, 5)}, {frac(2*fine-1, fine), ids(1, 2, -1, 5), ids(2, 2, 5)}, {frac(2*fine+1, fine), ids(1, 2, -1, 5), ids(1, 1, 5)},
		{whole(most), ids(1, 2, -1, 5), ids(1, 1, 5)}, {whole(-most), ids(1, 2, -1, 5), ids(2, 2, 5)}, {frac(-1, most), ids(5, 1, -1, 2), ids(2, 5, 2)}, {whole(0), ids(5, 1, -1, 2), ids(2, 1, 2)},
		// At 6 the points 2 and 5 are at the same place, and 5 is faster.
		{whole(6), ids(2, 5), ids(5)}, {frac(6*fine-1, fine), ids(2, 5), ids(2)}, {whole(6), ids(5, 2), ids(5)}, {whole(6), ids(2, 5, 1, -1), ids(1, 5, 1)}, {whole(6), ids(2, 5, -1, -1), ids(5, 5, -1)},
		{whole(1), ids(1, -1), ids(1)}, {whole(1), ids(-1, 1), ids(1)}, {whole(1), ids(-1, -1), ids(-1)}, {whole(1), ids(1, 2), ids(2)}, {whole(1), ids(2, 1), ids(2)},
		// Of three places the first one is a child of the root.
		{whole(1), ids(1, 2, 5), ids(2, 2)}, {whole(7), ids(1, 2, 5), ids(1, 5)}, {whole(7), ids(5, 2, 1), ids(1, 1)}, {whole(1), ids(-1, 5, 1), ids(1, 1)}, {whole(1), ids(5, -1, -1), ids(5, -1)}, {whole(1), ids(-1, -1, 5), ids(5, 5)}, {whole(1), ids(-1, 5, -1), ids(5, 5)},
		// Of five places the last two are below the node 3, the two before them below the node 2, and the first one is a child of the node 1.
		{whole(1), ids(1, -1, 2, 5, -1), ids(2, 1, 2, 5)}, {whole(1), ids(5, 2, 1, -1, -1), ids(2, 5, 2, -1)}, {whole(7), ids(2, 5, -1, -1, 1), ids(1, 1, 5, 1)},
	} {
		wantBuild(t, moving(), x.at, x.places, of(x.places, x.wins...), api.OK)
	}
}

// P10.1: Build of one place, which is the root, with an ID or without.
func TestBuildOne(t *testing.T) {
	for _, f := range fields() {
		for _, at := range times() {
			wantBuild(t, f, at, ids(-1), of(ids(-1)), api.OK)
			for _, id := range idsOf(f) {
				wantBuild(t, f, at, ids(id), of(ids(id)), api.OK)
			}
		}
	}
}

// P10.1: Build of MaxSize places, with IDs, with one ID alone, and without any.
func TestBuildMost(t *testing.T) {
	rising := of(upTo(64))
	for i := range 63 {
		rising.Wins = append(rising.Wins, slices.Max(under(upTo(64), i)))
	}
	wantBuild(t, standing(64), whole(7), upTo(64), rising, api.OK)
	wantBuild(t, level(64), frac(1, 2), upTo(64), rising, api.OK)
	falling := of(upTo(64))
	for i := range 63 {
		falling.Wins = append(falling.Wins, slices.Min(under(upTo(64), i)))
	}
	wantBuild(t, level(64), whole(1), upTo(64), falling, api.OK)
	wantBuild(t, level(64), whole(most), upTo(64), falling, api.OK)
	if falling.Wins[0] != 0 || falling.Wins[1] != 0 || falling.Wins[2] != 32 || rising.Wins[0] != 63 || rising.Wins[1] != 31 || rising.Wins[62] != 63 {
		t.Error(rising, falling)
	}
	for place := range 64 {
		b := of(empties(64), empties(63)...)
		b.Places[place] = 5
		for _, i := range pathOf(64, place) {
			b.Wins[i] = 5
		}
		wantBuild(t, moving(), whole(1), b.Places, b, api.OK)
	}
}

// P10.1: Build of places that are all empty, as many as there may be, of any field.
func TestBuildEmpty(t *testing.T) {
	for n := 1; n <= 64; n++ {
		for _, f := range fields() {
			wantBuild(t, f, whole(1), empties(n), of(empties(n), empties(n-1)...), api.OK)
		}
	}
}

// P10.1: of points that are at one place at the time the faster one wins, and of those that are as fast the one with the lesser ID.
func TestBuildTogether(t *testing.T) {
	f := together(64, 100)
	for _, at := range times() {
		for n := 2; n <= 64; n += 31 {
			m := mixer(n)
			places := m.mixed(idsOf(f)[:n])
			b := of(places)
			for i := range n - 1 {
				b.Wins = append(b.Wins, slices.Min(under(places, i)))
			}
			wantBuild(t, f, at, places, b, api.OK)
		}
	}
	// All are at 4 at the time 2, and they have the speeds 3, 3, 9, 9 and 0.
	f = points(pt(1, -2, 3), pt(2, -2, 3), pt(3, -14, 9), pt(4, -14, 9), pt(7, 4, 0))
	wantBuild(t, f, whole(2), ids(2, 1, 7, 3, 4), of(ids(2, 1, 7, 3, 4), 3, 3, 1, 3), api.OK)
	wantBuild(t, f, whole(2), ids(1, 7, 2, 4), of(ids(1, 7, 2, 4), 4, 1, 4), api.OK)
	wantBuild(t, f, whole(1), ids(2, 1, 7, 3, 4), of(ids(2, 1, 7, 3, 4), 7, 2, 7, 3), api.OK)
	wantBuild(t, f, whole(1), ids(1, 7, 2, 4), of(ids(1, 7, 2, 4), 7, 7, 2), api.OK)
}

// P10.1: Build where the places of points are out of range.
func TestBuildFar(t *testing.T) {
	wantBuild(t, ends(), whole(most), ids(65534, 1, 0, 2), of(ids(65534, 1, 0, 2), 0, 1, 0), api.OK)
	wantBuild(t, ends(), whole(-most), ids(65534, 1, 0, 2), of(ids(65534, 1, 0, 2), 2, 1, 2), api.OK)
	wantBuild(t, ends(), frac(-most, most-1), ids(65534, 1, 65533, 0, 65535, -1), of(ids(65534, 1, 65533, 0, 65535, -1), 65533, 65533, 1, 65533, 65535), api.OK)
}

// badSizes are as many places as no bracket has.
func badSizes() [][]int {
	return [][]int{nil, {}, empties(65), empties(66), empties(128), slices.Concat(upTo(64), ids(-1)), make([]int, 65), make([]int, 5000), slices.Repeat(ids(-2), 65)}
}

// P10.1: each error of Build, and which one comes first.
func TestBuildErrors(t *testing.T) {
	stranger, twice := ids(1, 3, -1), ids(1, -1, 5, 1)
	all := append(badSizes(), ids(1, 2, -1, 5), ids(-1), stranger, twice, ids(-2), ids(1, 1, 9), ids(most, most))
	for e, list := range badFields() {
		for _, f := range list {
			for _, at := range append(badTimes(), whole(0), whole(-1)) {
				for _, places := range all {
					wantNoBuild(t, f, at, places, e)
				}
			}
		}
	}
	for _, f := range fields() {
		for _, at := range badTimes() {
			for _, places := range all {
				wantNoBuild(t, f, at, places, api.ErrBad)
			}
		}
		for _, places := range badSizes() {
			wantNoBuild(t, f, whole(1), places, api.ErrArg)
		}
	}
}

// P10.1: an ID that is neither -1 nor one of the field is ErrNone, at each place, and the same ID twice is ErrTwice.
func TestBuildNone(t *testing.T) {
	places := ids(-1, 2, 5, -1, 1)
	for i := range places {
		for _, id := range append(notIDs(), 0, 3, 4, 6, 7, 65534, top) {
			list := slices.Clone(places)
			list[i] = id
			wantNoBuild(t, moving(), whole(1), list, api.ErrNone)
			wantNoBuild(t, moving(), whole(1), ids(id), api.ErrNone)
			wantNoBuild(t, api.Field{}, whole(1), ids(id), api.ErrNone)
			// Also where it is behind an ID that is there twice, before one, or there twice itself.
			wantNoBuild(t, moving(), whole(1), ids(1, 1, id), api.ErrNone)
			wantNoBuild(t, moving(), whole(1), ids(id, 1, 1), api.ErrNone)
			wantNoBuild(t, moving(), whole(1), ids(5, id, id, -1), api.ErrNone)
		}
	}
	for _, list := range [][]int{
		{1, 1}, {1, 2, 1}, {1, 2, 2}, {2, 2, 1}, {-1, 5, -1, 5}, {5, -1, -1, 5}, {1, 2, 5, 1, 2, 5}, {5, 5, 5}, slices.Concat(ids(2), empties(62), ids(2)), slices.Repeat(ids(1), 64),
	} {
		wantNoBuild(t, moving(), whole(1), list, api.ErrTwice)
		wantNoBuild(t, without(moving(), list...), whole(1), list, api.ErrNone)
	}
	wantNoBuild(t, level(64), whole(1), slices.Concat(upTo(63), ids(0)), api.ErrTwice)
	wantNoBuild(t, ends(), whole(1), ids(0, -1, 0), api.ErrTwice)
	wantNoBuild(t, ends(), whole(1), ids(top, top), api.ErrTwice)
	// That -1 is there twice is no error.
	wantBuild(t, moving(), whole(1), ids(-1, -1, 5, -1), of(ids(-1, -1, 5, -1), 5, -1, 5), api.OK)
}

// P10.1: Build, against the definitions.
func TestBuildByDefinition(t *testing.T) {
	m := mixer(101)
	seen := map[api.Errno]int{}
	for i := range 12000 {
		f := m.field(m.below(3 + i%9))
		if i%200 == 0 {
			f = m.field(64)
		}
		at := m.time(f)
		places := m.places(f, 1+m.below(len(f.Points)+3), m.pick(0, 1, 5, 9))
		if m.below(4) == 0 {
			places[m.below(len(places))] = m.pick(-2, 0, 1, 2, top, places[m.below(len(places))])
		}
		want, e := built(f, at, places)
		wantBuild(t, f, at, places, want, e)
		seen[e]++
	}
	for _, e := range []api.Errno{api.OK, api.ErrNone} {
		enough(t, seen[e])
	}
	if seen[api.ErrTwice] < 200 {
		t.Error(seen)
	}
}
