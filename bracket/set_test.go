package bracket_test

import (
	"slices"
	"testing"

	"peloton/api"
	"peloton/bracket"
)

func wantSet(t *testing.T, b api.Bracket, f api.Field, at api.Ratio, place, id int, want api.Bracket, changed []int, e api.Errno) {
	t.Helper()
	if r, list, g := bracket.Set(b, f, at, place, id); !same(r, want) || !slices.Equal(list, changed) || g != e {
		t.Fatal("set", b, f, at, place, id, r, list, g, want, changed, e)
	}
}

func wantNoSet(t *testing.T, b api.Bracket, f api.Field, at api.Ratio, place, id int, e api.Errno) {
	t.Helper()
	wantSet(t, b, f, at, place, id, api.Bracket{}, nil, e)
}

// setting is what is set in a bracket, and the winners and the nodes with other ones that come of it.
type setting struct {
	place, id     int
	wins, changed []int
}

// wantSettings fails unless each setting, of the same bracket, is as it is written.
func wantSettings(t *testing.T, b api.Bracket, f api.Field, at api.Ratio, list ...setting) {
	t.Helper()
	for _, x := range list {
		want := of(slices.Clone(b.Places), x.wins...)
		want.Places[x.place] = x.id
		wantSet(t, b, f, at, x.place, x.id, want, x.changed, api.OK)
	}
}

// P10.3: Set in a bracket that was right: winners change on all of the path, on some of it, and nowhere; at the first place, the last one and in between.
func TestSetRight(t *testing.T) {
	f := standing(20)
	wantSettings(t, of(ids(4, 3, 8, 12), 12, 4, 12), f, whole(5), []setting{
		{0, 15, ids(15, 15, 12), ids(1, 0)}, {0, 9, ids(12, 9, 12), ids(1)}, {0, 2, ids(12, 3, 12), ids(1)}, {0, 5, ids(12, 5, 12), ids(1)}, {0, 4, ids(12, 4, 12), nil}, {0, -1, ids(12, 3, 12), ids(1)},
		{1, 0, ids(12, 4, 12), nil}, {1, 2, ids(12, 4, 12), nil}, {1, 5, ids(12, 5, 12), ids(1)}, {1, 19, ids(19, 19, 12), ids(1, 0)}, {1, -1, ids(12, 4, 12), nil}, {1, 3, ids(12, 4, 12), nil},
		{2, 11, ids(12, 4, 12), nil}, {2, 13, ids(13, 4, 13), ids(2, 0)}, {2, -1, ids(12, 4, 12), nil}, {2, 8, ids(12, 4, 12), nil}, {2, 0, ids(12, 4, 12), nil},
		{3, 13, ids(13, 4, 13), ids(2, 0)}, {3, 9, ids(9, 4, 9), ids(2, 0)}, {3, 7, ids(8, 4, 8), ids(2, 0)}, {3, 0, ids(8, 4, 8), ids(2, 0)}, {3, -1, ids(8, 4, 8), ids(2, 0)}, {3, 12, ids(12, 4, 12), nil},
	}...)
	// Below the place of the root's winner nobody is as far as the other side is.
	wantSettings(t, of(ids(4, 1, 3, 2), 4, 4, 3), f, whole(5), setting{0, 2 + 3, ids(5, 5, 3), ids(1, 0)}, setting{0, -1, ids(3, 1, 3), ids(1, 0)}, setting{0, 0, ids(3, 1, 3), ids(1, 0)})
	// A place beside the root, and longer paths.
	wantSettings(t, of(ids(5, 7, 6), 7, 7), f, whole(5), setting{0, 9, ids(9, 7), ids(0)}, setting{0, 1, ids(7, 7), nil}, setting{0, -1, ids(7, 7), nil}, setting{1, 8, ids(8, 8), ids(1, 0)}, setting{1, -1, ids(6, 6), ids(1, 0)}, setting{1, 4, ids(6, 6), ids(1, 0)}, setting{2, 0, ids(7, 7), nil}, setting{2, 19, ids(19, 19), ids(1, 0)})
	wantSettings(t, of(ids(2, 5, 9, 1, 7), 9, 7, 9, 7), f, whole(5), setting{4, -1, ids(9, 2, 9, 1), ids(3, 1)}, setting{3, 8, ids(9, 8, 9, 8), ids(3, 1)}, setting{3, 10, ids(10, 10, 9, 10), ids(3, 1, 0)}, setting{0, 8, ids(9, 8, 9, 7), ids(1)}, setting{0, 3, ids(9, 7, 9, 7), nil}, setting{2, -1, ids(7, 7, 5, 7), ids(2, 0)}, setting{1, 10, ids(10, 7, 10, 7), ids(2, 0)})
	// Into empty places.
	wantSettings(t, of(ids(-1, -1, -1, -1), -1, -1, -1), f, whole(5), setting{0, 7, ids(7, 7, -1), ids(1, 0)}, setting{1, 7, ids(7, 7, -1), ids(1, 0)}, setting{2, 0, ids(0, -1, 0), ids(2, 0)}, setting{3, 0, ids(0, -1, 0), ids(2, 0)}, setting{2, -1, ids(-1, -1, -1), nil})
	// And the last ID of all, or of one side, out of its place.
	wantSettings(t, of(ids(-1, -1, 6, -1), 6, -1, 6), f, whole(5), setting{2, -1, ids(-1, -1, -1), ids(2, 0)}, setting{0, 7, ids(7, 7, 6), ids(1, 0)}, setting{1, 5, ids(6, 5, 6), ids(1)}, setting{3, 5, ids(6, -1, 6), nil})
}

// P10.3: Set at the only place, and at one of two.
func TestSetFew(t *testing.T) {
	for _, f := range []api.Field{moving(), points(append(moving().Points, pt(6, 9, 9))...)} {
		wantSettings(t, of(ids(-1)), f, whole(1), setting{0, 5, nil, nil}, setting{0, -1, nil, nil})
		wantSettings(t, of(ids(2)), f, whole(1), setting{0, 5, nil, nil}, setting{0, 2, nil, nil}, setting{0, -1, nil, nil})
		wantSettings(t, of(ids(2, 5), 2), f, whole(1), setting{0, 1, ids(1), ids(0)}, setting{0, 2, ids(2), nil}, setting{0, -1, ids(5), ids(0)}, setting{1, 1, ids(2), nil}, setting{1, 5, ids(2), nil}, setting{1, -1, ids(2), nil})
		wantSettings(t, of(ids(-1, -1), -1), f, whole(1), setting{0, 1, ids(1), ids(0)}, setting{1, 1, ids(1), ids(0)}, setting{0, -1, ids(-1), nil})
	}
	wantSet(t, of(ids(0)), ends(), whole(1), 0, top, of(ids(top)), nil, api.OK)
	wantSet(t, of(ids(top)), ends(), whole(1), 0, 0, of(ids(0)), nil, api.OK)
}

// P10.3: Set in a bracket that was not right mends its path, and no other node, also where the ID was there already.
func TestSetWrong(t *testing.T) {
	f := standing(20)
	// The winners are 3, 8 and 3 where 4, 12 and 12 are ahead.
	wantSettings(t, of(ids(4, 3, 8, 12), 3, 3, 8), f, whole(5), []setting{
		{0, 4, ids(8, 4, 8), ids(1, 0)}, {0, 15, ids(15, 15, 8), ids(1, 0)}, {0, 2, ids(8, 3, 8), ids(0)}, {0, -1, ids(8, 3, 8), ids(0)}, {0, 7, ids(8, 7, 8), ids(1, 0)},
		{1, 3, ids(8, 4, 8), ids(1, 0)}, {1, 9, ids(9, 9, 8), ids(1, 0)}, {1, -1, ids(8, 4, 8), ids(1, 0)},
		{2, 8, ids(12, 3, 12), ids(2, 0)}, {2, 14, ids(14, 3, 14), ids(2, 0)}, {2, -1, ids(12, 3, 12), ids(2, 0)}, {2, 13, ids(13, 3, 13), ids(2, 0)},
		{3, 12, ids(12, 3, 12), ids(2, 0)}, {3, 7, ids(8, 3, 8), ids(0)}, {3, -1, ids(8, 3, 8), ids(0)}, {3, 2, ids(8, 3, 8), ids(0)},
	}...)
	// One side is right, and the root is not; or the other way round.
	wantSettings(t, of(ids(4, 3, 8, 12), 4, 4, 12), f, whole(5), setting{0, 4, ids(12, 4, 12), ids(0)}, setting{3, 12, ids(12, 4, 12), ids(0)}, setting{0, 13, ids(13, 13, 12), ids(1, 0)}, setting{3, 2, ids(8, 4, 8), ids(2, 0)}, setting{3, 0, ids(8, 4, 8), ids(2, 0)})
	wantSettings(t, of(ids(4, 3, 8, 12), 12, 3, 12), f, whole(5), setting{0, 4, ids(12, 4, 12), ids(1)}, setting{3, 12, ids(12, 3, 12), nil}, setting{2, 1, ids(12, 3, 12), nil}, setting{0, 2, ids(12, 3, 12), nil})
	// The old winner of the root is right only because the one that was ahead went away.
	wantSettings(t, of(ids(4, 3, 8, 12), 8, 4, 8), f, whole(5), setting{3, -1, ids(8, 4, 8), nil}, setting{3, 12, ids(12, 4, 12), ids(2, 0)}, setting{3, 9, ids(9, 4, 9), ids(2, 0)})
	// In between a node keeps its winner, and those below and above it do not.
	wantSettings(t, of(ids(1, 2, 3, 4, 9, 6, 7, 8), 4, 4, 8, 1, 4, 9, 8), f, whole(5), setting{0, 0, ids(8, 4, 8, 2, 4, 9, 8), ids(3, 0)}, setting{1, 0, ids(8, 4, 8, 1, 4, 9, 8), ids(0)}, setting{4, 5, ids(8, 4, 8, 1, 4, 6, 8), ids(5, 0)}, setting{7, 8, ids(9, 4, 9, 1, 4, 9, 8), ids(2, 0)})
	// It was right at another time.
	wantSettings(t, example(), moving(), whole(7), setting{0, 1, ids(1, 1, 5), ids(1, 0)}, setting{0, -1, ids(5, 2, 5), ids(0)}, setting{3, -1, ids(2, 2, -1), ids(2)}, setting{3, 5, ids(5, 2, 5), ids(0)}, setting{2, -1, ids(5, 2, 5), ids(0)}, setting{1, -1, ids(1, 1, 5), ids(1, 0)})
	wantSettings(t, example(), moving(), whole(2), setting{0, 1, ids(1, 1, 5), ids(1, 0)}, setting{2, -1, ids(2, 2, 5), nil})
	wantSettings(t, example(), moving(), frac(2*fine-1, fine), setting{0, 1, ids(2, 2, 5), nil}, setting{2, -1, ids(2, 2, 5), nil})
}

// P10.3: Set at each place of the most places, where the winner comes up all of the path, or no part of it.
func TestSetMost(t *testing.T) {
	b := rightOne(level(64), whole(0), upTo(64))
	f := without(level(64), 0)
	f.Points = append(f.Points, pt(1000, coord, coord))
	for place := range 64 {
		r := clone(b)
		if place > 0 {
			r.Places[0], r.Wins = -1, slices.Clone(rightOne(level(64), whole(0), slices.Concat(ids(-1), upTo(64)[1:])).Wins)
		}
		way := pathOf(64, place)
		first := with(r, func(b *api.Bracket) {
			b.Places[place] = 1000
			for _, i := range way {
				b.Wins[i] = 1000
			}
		})
		wantSet(t, r, f, whole(0), place, 1000, first, way, api.OK)
		// Back again, or empty where the field does not have it.
		id := r.Places[place]
		if place == 0 {
			id = -1
		}
		back, list := set(t, first, f, whole(0), place, id)
		if want := rightOne(f, whole(0), back.Places); !same(back, want) || !slices.Equal(list, way) {
			t.Fatal(place, back, list)
		}
	}
}

// P10.3: the field need not have the ID that was at the place, but all other ones.
func TestSetOldIsGone(t *testing.T) {
	gone := without(moving(), 2)
	wantSet(t, example(), gone, whole(0), 1, -1, of(ids(1, -1, -1, 5), 1, 1, 5), ids(1, 0), api.OK)
	wantNoSet(t, example(), gone, whole(0), 1, 2, api.ErrNone)
	wantNoSet(t, example(), gone, whole(0), 0, -1, api.ErrNone)
	wantNoSet(t, example(), gone, whole(0), 2, -1, api.ErrNone)
	wantNoSet(t, example(), gone, whole(0), 3, 5, api.ErrNone)
	other := points(append(gone.Points, pt(7, 1, 0))...)
	wantSet(t, example(), other, whole(0), 1, 7, of(ids(1, 7, -1, 5), 7, 7, 5), ids(1, 0), api.OK)
	// The old winner of both nodes is not there.
	wantSet(t, of(ids(3, 1), 3), points(pt(1, 0, 0), pt(4, 0, 0)), whole(0), 0, 4, of(ids(4, 1), 1), ids(0), api.OK)
	wantSet(t, of(ids(3)), api.Field{}, whole(0), 0, -1, of(ids(-1)), nil, api.OK)
	wantSet(t, of(ids(3)), moving(), whole(0), 0, 5, of(ids(5)), nil, api.OK)
	wantNoSet(t, of(ids(3)), moving(), whole(0), 0, 3, api.ErrNone)
	// All of the others are looked at, not only those that are met.
	for _, place := range ids(0, 3, 6, 7) {
		for _, id := range ids(1, 2, 4, 5) {
			b := rightOne(standing(8), whole(0), upTo(8))
			wantNoSet(t, b, without(standing(9), id), whole(0), place, 8, api.ErrNone)
			wantNoSet(t, b, without(standing(9), id), whole(0), place, -1, api.ErrNone)
			wantNoSet(t, b, without(standing(9), id), whole(0), place, place, api.ErrNone)
			want, changed, _ := afterSetting(b, without(standing(9), place), whole(0), place, 8)
			wantSet(t, b, without(standing(9), place), whole(0), place, 8, want, changed, api.OK)
		}
	}
}

// P10.3: an ID that another place has is ErrTwice, and -1 is not.
func TestSetTwice(t *testing.T) {
	for _, s := range goodStages() {
		n := len(s.b.Places)
		for _, place := range ids(0, n/2, n-1) {
			for i, id := range s.b.Places {
				if i != place && id != -1 {
					wantNoSet(t, s.b, s.f, s.at, place, id, api.ErrTwice)
				}
			}
			want, changed, _ := afterSetting(s.b, s.f, s.at, place, -1)
			wantSet(t, s.b, s.f, s.at, place, -1, want, changed, api.OK)
		}
	}
}

// P10.3: each error of Set, and which one comes first.
func TestSetErrors(t *testing.T) {
	times := append(badTimes(), whole(1))
	places := append(farPlaces(4), 0, 1, 2, 3)
	some := ids(-1, 1, 2, 5, 9, -2, most)
	bad := badFields()
	for i, b := range allBadBrackets() {
		f := []api.Field{moving(), level(64), {}, bad[api.ErrMany][0], bad[api.ErrOrder][0], bad[api.ErrBad][i%len(bad[api.ErrBad])]}[i%6]
		wantNoSet(t, b, f, times[i%len(times)], places[i%len(places)], some[i%len(some)], api.ErrBad)
		wantNoSet(t, b, moving(), whole(1), 0, 1, api.ErrBad)
		wantNoSet(t, b, moving(), whole(1), 0, -1, api.ErrBad)
	}
	for e, list := range bad {
		for _, f := range list {
			for i, place := range places {
				for _, id := range some {
					wantNoSet(t, example(), f, times[i%len(times)], place, id, e)
					wantNoSet(t, example(), f, whole(1), place, id, e)
				}
			}
		}
	}
	for _, f := range fields() {
		for _, id := range some {
			for _, place := range places {
				for _, at := range badTimes() {
					wantNoSet(t, example(), f, at, place, id, api.ErrBad)
				}
			}
			for _, place := range farPlaces(4) {
				wantNoSet(t, example(), f, whole(1), place, id, api.ErrArg)
			}
		}
	}
}

// P10.3: an ID that is neither -1 nor one of the field is ErrNone, also where another place has it.
func TestSetNone(t *testing.T) {
	for place := range 4 {
		for _, id := range append(notIDs(), 0, 3, 4, 6, 7, 65534, top) {
			wantNoSet(t, example(), moving(), whole(1), place, id, api.ErrNone)
		}
		for _, id := range ids(1, 2, 5, -1) {
			for _, f := range []api.Field{{}, points(pt(7, 0, 0)), together(64, 100), without(moving(), 1, 2), without(moving(), 1, 5), without(moving(), 2, 5)} {
				wantNoSet(t, example(), f, whole(1), place, id, api.ErrNone)
			}
		}
	}
	// 2 is at the place 1, but the field does not have it, or it lacks another one.
	wantNoSet(t, example(), without(moving(), 2), whole(1), 0, 2, api.ErrNone)
	wantNoSet(t, example(), without(moving(), 5), whole(1), 0, 2, api.ErrNone)
	wantNoSet(t, example(), without(moving(), 1), whole(1), 0, 2, api.ErrTwice)
	wantNoSet(t, of(ids(-1)), moving(), whole(1), 0, 3, api.ErrNone)
	wantNoSet(t, of(ids(-1)), api.Field{}, whole(1), 0, 0, api.ErrNone)
}

// P10.3: Set, against the promise.
func TestSetByPromise(t *testing.T) {
	m := mixer(105)
	seen := map[api.Errno]int{}
	all, part, no, right := 0, 0, 0, 0
	for i := range 50000 {
		s := m.stage(1 + i%9)
		if i%100 == 0 {
			s = m.stage(64)
		}
		n := len(s.b.Places)
		place := m.pick(0, n-1, m.below(n), m.below(n), m.below(n))
		id := m.pick(append(idsOf(s.f), -1, s.b.Places[place])...)
		if m.below(5) == 0 {
			place, id = m.pick(-1, n, place), m.pick(0, 1, -2, id)
			s.f = without(s.f, m.pick(append(idsOf(s.f), -1)...))
		}
		want, changed, e := afterSetting(s.b, s.f, s.at, place, id)
		wantSet(t, s.b, s.f, s.at, place, id, want, changed, e)
		seen[e]++
		if e != api.OK || n == 1 {
			continue
		}
		switch len(changed) {
		case len(pathOf(n, place)):
			all++
		case 0:
			no++
		default:
			part++
		}
		if isRight(want, s.f, s.at) {
			right++
		}
	}
	for _, e := range []api.Errno{api.OK, api.ErrNone, api.ErrArg, api.ErrTwice} {
		enough(t, seen[e])
	}
	enough(t, all)
	enough(t, part)
	enough(t, no)
	enough(t, right)
	enough(t, all+part+no-right)
}
