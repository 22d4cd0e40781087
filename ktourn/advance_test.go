package ktourn_test

import (
	"slices"
	"testing"

	"peloton/api"
	"peloton/clock"
	"peloton/ktourn"
)

func wantAdvance(t *testing.T, k api.KTourn, to api.Ratio, want api.KTourn, failed []api.Cert, e api.Errno) {
	t.Helper()
	if r, list, g := ktourn.Advance(k, to); !same(r, want) || !slices.Equal(list, failed) || g != e {
		t.Fatal("advance", k, to, r, list, g, want, failed, e)
	}
}

func wantNoAdvance(t *testing.T, k api.KTourn, to api.Ratio, e api.Errno) {
	t.Helper()
	wantAdvance(t, k, to, api.KTourn{}, nil, e)
}

// P15.2: the tournament of the example: to Now, to just before the event, to its time, to just behind it, and past it.
func TestAdvanceExample(t *testing.T) {
	wantAdvance(t, early(), whole(0), early(), nil, api.OK)
	for _, to := range []api.Ratio{frac(1, most), whole(1), frac(2*fine-1, fine)} {
		wantAdvance(t, early(), to, at(early(), to), nil, api.OK)
	}
	wantAdvance(t, early(), whole(2), late(), certs(over(2, 1)), api.OK)
	for _, to := range []api.Ratio{frac(2*fine+1, fine), whole(6), whole(7), whole(most)} {
		wantAdvance(t, early(), to, at(late(), to), certs(over(2, 1)), api.OK)
		wantAdvance(t, late(), to, at(late(), to), nil, api.OK)
	}
	wantAdvance(t, late(), whole(2), late(), nil, api.OK)
}

// P15.2: several events one after the other: the winners and what failed, after each of them, in one advance; of the same points at other places others fail.
func TestAdvanceSeveral(t *testing.T) {
	for _, x := range []struct {
		places []int
		to     api.Ratio
		wins   []int
		failed []api.Cert
		next   int
	}{
		{numbers(0, 1, 2, 3), whole(0), numbers(3, 1, 3), nil, 3}, {numbers(0, 1, 2, 3), frac(fine-1, fine), numbers(3, 1, 3), nil, 3},
		// 0 wins against 1, and comes up to the match with 3.
		{numbers(0, 1, 2, 3), whole(1), numbers(3, 0, 3), certs(over(1, 0)), 5}, {numbers(0, 1, 2, 3), frac(3*fine-1, fine), numbers(3, 0, 3), certs(over(1, 0)), 5},
		{numbers(0, 1, 2, 3), whole(3), numbers(0, 0, 3), certs(over(1, 0), over(3, 0)), 6}, {numbers(0, 1, 2, 3), whole(most), numbers(0, 0, 3), certs(over(1, 0), over(3, 0)), 6},
		// 0 waits for 3, and passes 2 and 1 without a match.
		{numbers(3, 0, 1, 2), frac(3*fine-1, fine), numbers(3, 3, 2), nil, 3}, {numbers(3, 0, 1, 2), whole(most), numbers(0, 0, 2), certs(over(3, 0)), 5},
		{numbers(2, 0, 1, 3), frac(2*fine-1, fine), numbers(3, 2, 3), nil, 3}, {numbers(2, 0, 1, 3), whole(2), numbers(3, 0, 3), certs(over(2, 0)), 5}, {numbers(2, 0, 1, 3), whole(most), numbers(0, 0, 3), certs(over(2, 0), over(3, 0)), 6},
		// One match after the other, up to the root.
		{numbers(0, -1, 1, -1, 2, -1, 3, -1), whole(most), numbers(0, 0, 3, 0, 1, 2, 3), certs(over(1, 0), over(3, 0)), 6},
		{numbers(0, 1, 2, -1, 3, -1, -1, -1), whole(2), numbers(3, 0, 3, 0, 2, 3, -1), certs(over(1, 0), over(2, 0)), 7},
		{numbers(0, 1, 2, -1, 3, -1, -1, -1), whole(3), numbers(0, 0, 3, 0, 2, 3, -1), certs(over(1, 0), over(2, 0), over(3, 0)), 8},
	} {
		k := tournOf(whole(0), chasing(), x.places...)
		r, list := advance(t, k, x.to)
		if !slices.Equal(r.Bracket.Wins, x.wins) || !slices.Equal(list, x.failed) || r.Clock.Now != x.to || r.Clock.Certs.Next != x.next || !isValid(r) {
			t.Error(x, r, list)
		}
		if !slices.Equal(r.Bracket.Places, x.places) {
			t.Error("other places", x, r)
		}
	}
}

// P15.2: of several events at one time the one with the least number happens; as all matches are right behind it, the others do not.
func TestAdvanceAtOnce(t *testing.T) {
	// All meet at 1, and the match of the root has the least number.
	for _, n := range numbers(2, 3, 4, 5, 7, 8, 16, 33, 64) {
		k := build(t, level(n), whole(0))
		first := k.Clock.Certs.List[0].Cert
		r, list := advance(t, k, whole(1))
		if !slices.Equal(list, certs(first)) || r.Bracket.Wins[0] != 0 || !isValid(r) {
			t.Error(n, r, list)
		}
	}
	pairs := certs(over(3, 1), over(1, 0), over(3, 2))
	for _, list := range [][]api.Cert{{pairs[0], pairs[1], pairs[2]}, {pairs[1], pairs[2], pairs[0]}, {pairs[2], pairs[0], pairs[1]}} {
		k := api.KTourn{Clock: clockOf(whole(0), level(4), list...), Bracket: api.Bracket{Places: numbers(0, 1, 2, 3), Wins: numbers(3, 1, 3)}}
		r, failed := advance(t, k, whole(1))
		if !slices.Equal(failed, list[:1]) || !slices.Equal(r.Bracket.Wins, numbers(0, 0, 2)) || !isValid(r) {
			t.Error(list, r, failed)
		}
	}
	// Two pairs meet at 1, at two places; then the first ones of both meet at 3.
	f := points(pt(0, 0, 1), pt(1, 1, 0), pt(2, 3, 0), pt(3, 4, -1))
	k := tournOf(whole(0), f, 0, 1, 2, 3)
	for to, want := range map[api.Ratio][]api.Cert{whole(1): certs(over(1, 0)), frac(3*fine-1, fine): certs(over(1, 0)), whole(3): certs(over(1, 0), over(2, 0))} {
		r, failed := advance(t, k, to)
		if !slices.Equal(failed, want) || !isValid(r) {
			t.Error(to, r, failed)
		}
		id := 2
		if compare(to, whole(3)) >= 0 {
			id = 0
		}
		if !slices.Equal(r.Bracket.Wins, numbers(id, 0, 2)) {
			t.Error(to, r)
		}
	}
}

// P15.2: points with the same course never meet: the one with the lesser ID stays ahead, though both overtake another one at once.
func TestAdvanceSameCourse(t *testing.T) {
	f := points(pt(2, 1, 0), pt(4, 0, 1), pt(6, 0, 1))
	for _, x := range []struct {
		places, wins []int
		failed       []api.Cert
	}{
		{numbers(2, 4, 6, -1), numbers(4, 4, 6), certs(over(2, 6))}, {numbers(6, 4, 2, -1), numbers(4, 4, 2), certs(over(2, 4))}, {numbers(6, 2, -1, 4), numbers(4, 6, 4), certs(over(2, 4))}, {numbers(-1, 2, 4, 6), numbers(4, 2, 4), certs(over(2, 4))},
	} {
		k := tournOf(whole(0), f, x.places...)
		r, failed := advance(t, k, whole(1))
		if !slices.Equal(r.Bracket.Wins, x.wins) || !slices.Equal(failed, x.failed) || !isValid(r) {
			t.Error(x, r, failed)
		}
		wantEdges(t, r, edgesOf(api.Bracket{Places: x.places, Wins: x.wins}), api.OK)
	}
	// At 1 all points of one course pass those of the other one, each one its neighbour in a match of two places; the first one of these fails.
	k := build(t, many(64, 0, func(i int64) (a, b int64) { return i % 2, -(i % 2) }), whole(0))
	r, failed := advance(t, k, whole(most))
	if !slices.Equal(failed, certs(over(1, 0))) || !isValid(r) {
		t.Error(r, failed)
	}
	wantLeader(t, r, 0, api.OK)
}

// P15.2: up to 64 points that meet at once, or at few times.
func TestAdvanceTogether(t *testing.T) {
	for _, n := range numbers(0, 1, 2, 3, 4, 5, 6, 7, 8, 9, 12, 16, 31, 64) {
		for _, f := range []api.Field{level(n), many(n, 5, func(i int64) (a, b int64) { return -(i % 5) * 7, i % 5 }), many(n, 1, func(i int64) (a, b int64) { return i * 29 % 64, -(i * 29 % 64) })} {
			k := build(t, f, whole(-9))
			for _, to := range []api.Ratio{frac(fine-1, fine), whole(1), frac(7<<40-1, 1<<40), whole(7)} {
				want, list, e := advanced(k, to)
				wantAdvance(t, k, to, want, list, e)
				if !isValid(want) {
					t.Fatal(n, f, to)
				}
			}
		}
	}
}

// P15.2: many events of many points, of which few meet at the same time.
func TestAdvanceMany(t *testing.T) {
	m := mixer(157)
	for _, n := range numbers(20, 40, 64) {
		k := m.tournOf(whole(-1), crowd(n))
		want, list, e := advanced(k, whole(most))
		wantAdvance(t, k, whole(most), want, list, e)
		if len(list) < n/2 {
			t.Error(n, "only", len(list))
		}
	}
}

// P15.2: tournaments without points, and with one, and of points that never change their order.
func TestAdvanceNothing(t *testing.T) {
	for _, f := range []api.Field{{}, points(pt(3, 0, 0)), points(pt(top, coord, coord)), standing(2), standing(64), twins(33), many(64, 3, func(i int64) (a, b int64) { return i % 3, 8 })} {
		for _, now := range times() {
			k := build(t, f, now)
			for _, to := range times() {
				if compare(to, now) < 0 {
					wantNoAdvance(t, k, to, api.ErrPast)
				} else {
					wantAdvance(t, k, to, at(k, to), nil, api.OK)
				}
			}
		}
	}
}

// P15.2: a time that is not valid is ErrBad, and one before Now is ErrPast, also where a certificate is due.
func TestAdvanceErrors(t *testing.T) {
	for _, k := range goodTourns() {
		for _, to := range badTimes() {
			wantNoAdvance(t, k, to, api.ErrBad)
		}
		now := k.Clock.Now
		if now.Num > least/4 && now.Den < 1<<40 && now.Num < most/4096 && now.Num > -most/4096 {
			wantNoAdvance(t, k, ratio(1024*now.Num-1, 1024*now.Den), api.ErrPast)
		}
		for _, to := range times() {
			if compare(to, now) < 0 {
				wantNoAdvance(t, k, to, api.ErrPast)
			}
		}
	}
	for _, to := range []api.Ratio{whole(-1), frac(-1, most), whole(-most)} {
		wantNoAdvance(t, early(), to, api.ErrPast)
	}
	wantNoAdvance(t, late(), frac(2*fine-1, fine), api.ErrPast)
	wantNoAdvance(t, clocked(early(), counted(early().Clock, 0)), whole(-1), api.ErrPast)
	wantNoAdvance(t, clocked(early(), counted(early().Clock, 0)), frac(4, 2), api.ErrBad)
}

// P15.2: a tournament that is not valid is ErrBad, to whatever time.
func TestAdvanceBad(t *testing.T) {
	for _, list := range badTourns() {
		for i, k := range list {
			for _, to := range []api.Ratio{k.Clock.Now, whole(most), whole(-most), badTimes()[i%13]} {
				wantNoAdvance(t, k, to, api.ErrBad)
			}
		}
	}
}

// P15.2: where numbers run out on the way it is ErrFull, and before that not.
func TestAdvanceNumbers(t *testing.T) {
	// The first event, at 1, needs two numbers, and the second one, at 3, one number.
	base := build(t, chasing(), whole(0))
	for left, to := range map[int]api.Ratio{0: whole(1), 1: whole(1), 2: whole(3)} {
		k := clocked(base, counted(base.Clock, left))
		wantNoAdvance(t, k, to, api.ErrFull)
		wantNoAdvance(t, k, whole(most), api.ErrFull)
		before := frac(to.Num*fine-1, fine)
		if r, list := advance(t, k, before); len(list) != left/2 || r.Clock.Now != before || !isValid(r) {
			t.Error(left, r, list)
		}
	}
	k := clocked(base, counted(base.Clock, 3))
	if r, list := advance(t, k, whole(most)); len(list) != 2 || r.Clock.Certs.Next != limit || !isValid(r) {
		t.Error(r, list)
	}
	for left := range 2 {
		wantNoAdvance(t, clocked(early(), counted(early().Clock, left)), whole(2), api.ErrFull)
	}
	none := clocked(early(), counted(early().Clock, 0))
	wantAdvance(t, none, whole(1), at(none, whole(1)), nil, api.OK)
}

// P15.2: where no place of an event can be taken it is ErrFull: where the slot of what failed, or of what was retired, was used too often.
func TestAdvancePlaces(t *testing.T) {
	// At 1 the certificate of 1 with 0 fails, and that of 3 with 0 comes, which fails at 3.
	base := build(t, chasing(), whole(0))
	worn := clocked(base, usedUp(base.Clock, 1))
	wantNoAdvance(t, worn, whole(1), api.ErrFull)
	wantNoAdvance(t, worn, whole(most), api.ErrFull)
	before := frac(fine-1, fine)
	wantAdvance(t, worn, before, at(worn, before), nil, api.OK)
	// The next free slot is not needed, as the one that was given back is taken.
	r, list := advance(t, clocked(base, blocked(base.Clock)), whole(3))
	if len(list) != 2 || !isValid(r) {
		t.Error(r, list)
	}
	// In the example the new certificates never fail.
	for number := range 2 {
		r, list = advance(t, clocked(early(), usedUp(early().Clock, number)), whole(9))
		if !slices.Equal(list, certs(over(2, 1))) || !slices.Equal(r.Bracket.Wins, numbers(1, 1, 5)) {
			t.Error(r, list)
		}
	}
	// At 1 the certificate of 1 with 0 fails, that of 1 with 2 is retired, and that of 0 with 2 comes: so the slot of what was retired is taken, and not that of what failed.
	k := tournOf(whole(0), points(pt(0, 0, 2), pt(1, 2, 0), pt(2, -10, 5), pt(3, -20, 0)), 0, 1, 2, 3)
	if !slices.Equal(certsOf(k.Clock), certs(over(1, 2), over(1, 0), over(2, 3))) {
		t.Fatal(k)
	}
	wantNoAdvance(t, clocked(k, usedUp(k.Clock, 0)), whole(1), api.ErrFull)
	r, list = advance(t, clocked(k, usedUp(k.Clock, 1)), frac(10, 3))
	if !slices.Equal(list, certs(over(1, 0), over(0, 2))) || !slices.Equal(r.Bracket.Wins, numbers(2, 0, 2)) || !isValid(r) {
		t.Error(r, list)
	}
}

// P15.2: Advance, against the definition, also where numbers or places of events are scarce.
func TestAdvanceByDefinition(t *testing.T) {
	m := mixer(158)
	seen := map[api.Errno]int{}
	events, none := 0, 0
	for i := range 1600 {
		k := m.scarce(m.tourn(i % 17))
		if i%100 == 0 {
			k = m.tourn(64)
		}
		to := m.later(k.Clock.Field, k.Clock.Now)
		if m.below(10) == 0 {
			to = m.time(k.Clock.Field)
		}
		want, list, e := advanced(k, to)
		wantAdvance(t, k, to, want, list, e)
		seen[e]++
		events += len(list)
		if e == api.OK && len(list) == 0 {
			none++
		}
	}
	for e, n := range map[api.Errno]int{api.OK: 1000, api.ErrFull: 50, api.ErrPast: 30} {
		if seen[e] < n {
			t.Error(e, "seen only", seen[e])
		}
	}
	enough(t, events)
	if none < 100 {
		t.Error(none)
	}
}

// P15.2: an event retires and certifies just what changes: the certificates of all other edges keep their numbers and handles.
func TestAdvanceKeeps(t *testing.T) {
	m := mixer(159)
	kept := 0
	for i := range 600 {
		k := m.tourn(5 + i%30)
		y, e := clock.Next(k.Clock)
		if e != api.OK {
			continue
		}
		r, list := advance(t, k, y.At)
		if len(list) != 1 {
			t.Fatal("several events at one time", k, r, list)
		}
		stays, changes := 0, 0
		for _, x := range edgesOf(r.Bracket) {
			if !slices.Contains(certsOf(k.Clock), x) {
				changes++
				continue
			}
			for _, h := range k.Clock.Certs.List {
				if h.Cert == x && slices.Contains(r.Clock.Certs.List, h) {
					stays++
				}
			}
		}
		if stays+changes != len(k.Clock.Field.Points)-1 || r.Clock.Certs.Next != k.Clock.Certs.Next+changes {
			t.Fatal(k, r, stays, changes)
		}
		for _, d := range k.Clock.Due {
			if was := heldAt(k.Clock, d.Number); slices.Contains(r.Clock.Certs.List, was) && !slices.Contains(r.Clock.Due, d) {
				t.Fatal("another handle", k, r, d)
			}
		}
		kept += stays
	}
	enough(t, kept)
}

// heldAt is the certificate of a clock with a number, which is there.
func heldAt(c api.Clock, number int) api.Held {
	i := slices.IndexFunc(c.Certs.List, func(h api.Held) bool { return h.Number == number })
	return c.Certs.List[i]
}
