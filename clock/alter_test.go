package clock_test

import (
	"slices"
	"testing"

	"peloton/agenda"
	"peloton/api"
	"peloton/clock"
)

func wantAlter(t *testing.T, c api.Clock, f api.Field, want api.Clock, e api.Errno) {
	t.Helper()
	if r, g := clock.Alter(c, f); !same(r, want) || g != e {
		t.Fatal("alter", c, f, r, g, want, e)
	}
}

// withPoint is a field with another point in the place of the one with its ID, or with one more behind the others.
func withPoint(f api.Field, p api.Point) api.Field {
	list := slices.Clone(f.Points)
	for i, q := range list {
		if q.ID == p.ID {
			list[i] = p
			return points(list...)
		}
	}
	return points(append(list, p)...)
}

// wantEvents fails unless a clock is valid, and has just these events, with the handles that are told.
func wantEvents(t *testing.T, c api.Clock, want ...api.Event) {
	t.Helper()
	list := slices.Clone(c.Agenda.Heap)
	slices.SortFunc(list, func(x, y api.Event) int { return x.Number - y.Number })
	if e := clock.Check(c); e != api.OK || !isValid(c) || !slices.Equal(list, want) {
		t.Fatal(c, e, list, want)
	}
}

// P9.4: an event that comes earlier, or later, keeps its handle; one that is there no more gives it back, and a new one gets another one.
func TestAlter(t *testing.T) {
	two := event(whole(2), 0, 0, 1)
	from1 := func(at api.Ratio) api.Event { return event(at, 1, 1, 1) }
	from2 := func(at api.Ratio) api.Event { return event(at, 2, 2, 1) }
	for _, x := range []struct {
		p    api.Point
		want []api.Event
	}{
		// The same point again, and one that meets 2 earlier or later, also at the same time as 1.
		{pt(5, 0, 0), []api.Event{two, from1(whole(6))}}, {pt(5, 0, 1), []api.Event{two, from1(whole(3))}}, {pt(5, -1, 0), []api.Event{two, from1(whole(7))}}, {pt(5, -1048576, 1), []api.Event{two, from1(frac(524291, 1))}},
		// It is as slow as 2, or slower, so 2 stays ahead of it.
		{pt(5, 0, -1), []api.Event{two}}, {pt(5, 0, -9), []api.Event{two}}, {pt(5, 4, -2), []api.Event{two}}, {pt(5, 5, -2), []api.Event{two, event(whole(1), 2, 1, 2)}},
		// It is faster than 1, so it overtakes 1 later, or it has done it: before, or just now.
		{pt(5, -2, 3), []api.Event{two, from1(whole(2)), from2(whole(2))}}, {pt(5, -3, 3), []api.Event{two, from1(frac(9, 4)), from2(whole(3))}},
		{pt(5, 0, 3), []api.Event{two, from1(frac(3, 2)), from2(whole(1))}}, {pt(5, -1, 3), []api.Event{two, from1(frac(7, 4)), from2(whole(1))}},
		// It is ahead of 1, which is faster; and of 2, from before or just now.
		{pt(5, 4, 0), []api.Event{two, from1(whole(2)), from2(whole(1))}}, {pt(5, 5, 0), []api.Event{two, from1(whole(1)), from2(whole(1))}}, {pt(5, 9, 0), []api.Event{two, from1(whole(1)), from2(whole(1))}},
	} {
		wantEvents(t, alter(t, example(), withPoint(moving(), x.p)), x.want...)
	}
	// 1 and 2 change, and so do all three.
	wantEvents(t, alter(t, example(), points(pt(1, 0, -2), pt(2, 1, 3), pt(5, -4, 5))), event(frac(5, 2), 1, 1, 1), event(whole(1), 2, 0, 2))
}

// P9.4: events in the order of numbers: what is removed before something is pushed gives it its slot, and what is removed later does not.
func TestAlterInOrder(t *testing.T) {
	f := points(pt(1, 0, 0), pt(2, 1, 0), pt(3, 0, 1))
	// 4 fails at 1, and 7 never; with the other field it is the other way round.
	c := of(whole(0), f, certs(9, held(4, 2, 3), held(7, 2, 1)))
	wantEvents(t, c, event(whole(1), 4, 0, 1))
	g := points(pt(1, 0, 1), pt(2, 1, 0), pt(3, 0, 0))
	wantEvents(t, alter(t, c, g), event(whole(1), 7, 0, 2))
	// With the numbers exchanged 4 is pushed first.
	c = of(whole(0), f, certs(9, held(4, 2, 1), held(7, 2, 3)))
	wantEvents(t, c, event(whole(1), 7, 0, 1))
	wantEvents(t, alter(t, c, g), event(whole(1), 4, 1, 1))
	// Two are removed, and two pushed: the last one that was removed is taken first.
	c = of(whole(0), points(pt(1, 0, 1), pt(2, 9, 0), pt(3, 0, 1), pt(4, 0, 0), pt(5, 0, 0)), certs(9, held(0, 2, 1), held(1, 2, 3), held(2, 2, 4), held(3, 2, 5)))
	wantEvents(t, c, event(whole(9), 0, 0, 1), event(whole(9), 1, 1, 1))
	h := points(pt(1, 0, 0), pt(2, 9, 0), pt(3, 0, 0), pt(4, 0, 1), pt(5, 0, 3))
	wantEvents(t, alter(t, c, h), event(whole(9), 2, 1, 2), event(whole(3), 3, 0, 2))
}

// P9.4: points that no certificate names may come, go and change, and no event changes.
func TestAlterOthers(t *testing.T) {
	for _, f := range []api.Field{
		moving(), withPoint(moving(), pt(7, 1, 1)), withPoint(moving(), pt(top, coord, coord)), points(append([]api.Point{pt(0, 9, 9)}, moving().Points...)...),
		points(slices.Concat(moving().Points, many(61, 6, func(i int64) (a, b int64) { return i, -i }).Points)...),
	} {
		want := with(example(), func(c *api.Clock) { c.Field = f })
		wantAlter(t, example(), f, want, api.OK)
		wantAlter(t, want, moving(), example(), api.OK)
	}
	for _, f := range fields() {
		wantAlter(t, bare(whole(1), moving()), f, bare(whole(1), f), api.OK)
		wantAlter(t, bare(whole(1), f), api.Field{}, bare(whole(1), api.Field{}), api.OK)
	}
	// 5 is named by a certificate that never fails.
	c := of(whole(1), moving(), certs(1, held(0, 1, 5)))
	wantAlter(t, c, points(pt(1, 0, 2), pt(5, 0, 0)), with(c, func(c *api.Clock) { c.Field = points(pt(1, 0, 2), pt(5, 0, 0)) }), api.OK)
}

// P9.4: the error of the field comes first, also where a point that is named is not there.
func TestAlterBadFields(t *testing.T) {
	for _, c := range []api.Clock{example(), gapped(), bare(whole(1), moving()), bare(whole(1), api.Field{}), blocked(example()), of(whole(9), crowd(64), pairs(200))} {
		for e, list := range badFields() {
			for _, f := range list {
				wantAlter(t, c, f, api.Clock{}, e)
			}
		}
	}
}

// P9.4: a field without a point that is named is ErrNone, whichever is missing, and whether its certificate fails or not.
func TestAlterNone(t *testing.T) {
	for _, f := range []api.Field{{}, points(pt(1, 0, 2), pt(2, 6, -1)), points(pt(1, 0, 2), pt(5, 0, 0)), points(pt(2, 6, -1), pt(5, 0, 0)), points(pt(0, 0, 2), pt(2, 6, -1), pt(5, 0, 0)), points(pt(1, 0, 2), pt(2, 6, -1), pt(6, 0, 0)), many(64, 6, func(i int64) (a, b int64) { return i, -i })} {
		wantAlter(t, example(), f, api.Clock{}, api.ErrNone)
		wantAlter(t, blocked(example()), f, api.Clock{}, api.ErrNone)
	}
	for _, x := range []api.Held{held(0, 1, 5), held(0, 5, 1)} {
		c := of(whole(1), moving(), certs(1, x))
		wantAlter(t, c, points(pt(1, 0, 2), pt(2, 6, -1)), api.Clock{}, api.ErrNone)
		wantAlter(t, c, points(pt(2, 6, -1), pt(5, 0, 0)), api.Clock{}, api.ErrNone)
		wantAlter(t, c, points(pt(2, 6, -1)), api.Clock{}, api.ErrNone)
	}
	// Only the last certificate names 7.
	if f := points(gapped().Field.Points[:3]...); !hasAll(f, gapped().Certs.List[:5]...) {
		t.Error(f)
	} else {
		wantAlter(t, gapped(), f, api.Clock{}, api.ErrNone)
	}
}

// P9.4: an event that cannot be pushed is ErrFull; one that is rekeyed or removed needs no room, and a slot that is given back before is taken instead.
func TestAlterNoRoom(t *testing.T) {
	fast := withPoint(moving(), pt(5, 0, 3))
	wantAlter(t, blocked(example()), fast, api.Clock{}, api.ErrFull)
	slow := withPoint(moving(), pt(5, 0, 1))
	want := with(alter(t, example(), slow), func(c *api.Clock) { c.Agenda.Slots.Uses[2] = limit })
	wantAlter(t, blocked(example()), slow, want, api.OK)
	// 2 as slow as 5: the event of 1 goes, and that of 0 stays.
	gone := withPoint(moving(), pt(5, 0, -1))
	want = with(alter(t, example(), gone), func(c *api.Clock) { c.Agenda.Slots.Uses[2] = limit })
	wantAlter(t, blocked(example()), gone, want, api.OK)
	// 1 slows down, so that 0 goes, and 2 comes: it gets the slot of 0, unless this one was used MaxUses times.
	still := withPoint(moving(), pt(1, 1, -2))
	c := of(whole(0), moving(), example().Certs)
	r := alter(t, blocked(c), still)
	wantEvents(t, r, event(whole(6), 1, 1, 1), event(frac(1, 2), 2, 0, 2))
	used := with(c, func(c *api.Clock) {
		c.Agenda.Slots.Uses[0] = limit
		c.Agenda.Heap[0].Handle.Use, c.Due[0].Handle.Use = limit, limit
	})
	wantAlter(t, used, still, api.Clock{}, api.ErrFull)
	// One use is left: what is pushed first gets it.
	left := with(c, func(c *api.Clock) {
		c.Agenda.Slots.Uses[0] = limit - 1
		c.Agenda.Heap[0].Handle.Use, c.Due[0].Handle.Use = limit-1, limit-1
	})
	wantEvents(t, alter(t, left, still), event(whole(6), 1, 1, 1), event(frac(1, 2), 2, 0, limit))
}

// P9.4: all 200 certificates of a clock may have events, and get other ones, or lose all of them, and get them again.
func TestAlterMost(t *testing.T) {
	c := of(whole(0), crowd(64), pairs(200))
	r := alter(t, c, level(64))
	for n := range 200 {
		if x, e := agenda.Find(r.Agenda, r.Due[n].Handle); e != api.OK || x.At != whole(1) || x.Number != n || x.Handle != c.Due[n].Handle {
			t.Fatal(n, x, e)
		}
	}
	standing := many(64, 0, func(i int64) (a, b int64) { return i, 0 })
	r = alter(t, c, standing)
	if len(r.Due)+len(r.Agenda.Heap) != 0 || len(r.Agenda.Slots.Free) != 200 || clock.Check(r) != api.OK {
		t.Error(r)
	}
	r = alter(t, r, crowd(64))
	for n, d := range r.Due {
		if x, e := agenda.Find(r.Agenda, d.Handle); e != api.OK || d.Number != n || d.Handle != (api.Handle{Index: 199 - n, Use: 2}) || x.Number != n {
			t.Fatal(n, d, x, e)
		}
	}
	if len(r.Due) != 200 {
		t.Error(r)
	}
}

// P9.4: Alter, against the promise.
func TestAlterByPromise(t *testing.T) {
	m := mixer(99)
	seen := map[api.Errno]int{}
	kinds := map[string]int{}
	for i := range 2500 {
		c := m.clock(2+i%9, 2+i%14)
		if i%100 == 1 {
			c = m.clock(64, 230)
		}
		if i%5 == 0 && len(c.Agenda.Heap) < 200 {
			c = blocked(c)
		}
		f := m.other(c.Field, 1+m.below(9))
		switch n := len(f.Points); m.below(12) {
		case 0:
			k := m.below(n)
			f.Points = slices.Delete(f.Points, k, k+1)
		case 1:
			f.Points[m.below(n)] = badPoints()[m.below(len(badPoints()))]
		case 2:
			f = withPoint(f, pt(top, 0, 0))
		}
		want, e := afterAltering(c, f)
		wantAlter(t, c, f, want, e)
		seen[e]++
		if e == api.OK {
			countKinds(kinds, c, want)
		}
	}
	for e, n := range map[api.Errno]int{api.OK: 1000, api.ErrNone: 50, api.ErrBad: 100, api.ErrFull: 50} {
		if seen[e] < n {
			t.Error(e, "seen only", seen[e])
		}
	}
	for _, kind := range []string{"earlier", "later", "the same", "gone", "new", "none"} {
		if kinds[kind] < 400 {
			t.Error(kind, "seen only", kinds[kind])
		}
	}
}

// countKinds counts what became of the events of certificates.
func countKinds(kinds map[string]int, c, r api.Clock) {
	for _, h := range c.Certs.List {
		before, had := eventOf(c.Agenda, h.Number)
		after, has := eventOf(r.Agenda, h.Number)
		switch {
		case had && has:
			kinds[[]string{"earlier", "the same", "later"}[1+compare(after.At, before.At)]]++
		case had:
			kinds["gone"]++
		case has:
			kinds["new"]++
		default:
			kinds["none"]++
		}
	}
}
