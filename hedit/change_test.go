package hedit_test

import (
	"slices"
	"testing"

	"peloton/api"
	"peloton/hedit"
)

func wantChange(t *testing.T, k api.KHeap, p api.Point, want api.KHeap, e api.Errno) {
	t.Helper()
	if r, g := hedit.Change(k, p); !same(r, want) || g != e {
		t.Fatal("change", k, p, r, g, want, e)
	}
}

func wantNoChange(t *testing.T, k api.KHeap, p api.Point, e api.Errno) {
	t.Helper()
	wantChange(t, k, p, api.KHeap{}, e)
}

// P14.3: heaps of the example, as all of each is: a point that stays, whose event comes later, goes, or is new, and one that rises.
func TestChangeExample(t *testing.T) {
	// 5 meets 2 at 3.
	wantChange(t, early(), pt(5, 0, 1), with(early(), func(k *api.KHeap) {
		k.Clock.Field.Points[2].B = 1
		k.Clock.Agenda.Heap[1].At = whole(3)
	}), api.OK)
	// 5 never meets 2 any more.
	wantChange(t, early(), pt(5, 0, -1), with(early(), func(k *api.KHeap) {
		k.Clock.Field.Points[2].B = -1
		k.Clock.Agenda = fresh(1)
		k.Clock.Agenda.Slots.Uses[1] = 1
		k.Clock.Agenda.Heap, k.Clock.Due = early().Clock.Agenda.Heap[:1], k.Clock.Due[:1]
	}), api.OK)
	// 5 meets 1 at 9.
	ahead := func(k *api.KHeap, number int, at api.Ratio) {
		s := &k.Clock.Agenda.Slots
		s.Uses[1], s.Used[1], s.Free, k.Clock.Agenda.Where[1] = 2, true, s.Free[:199], 0
		k.Clock.Agenda.Heap = []api.Event{event(at, number, 1, 2)}
		k.Clock.Due = []api.Due{{Number: number, Handle: api.Handle{Index: 1, Use: 2}}}
	}
	wantChange(t, late(), pt(5, -9, 3), with(late(), func(k *api.KHeap) {
		k.Clock.Field.Points[2] = pt(5, -9, 3)
		ahead(k, 3, whole(9))
	}), api.OK)
	// 5 is ahead of both, and meets 1 at 5/2; both certificates are others.
	wantChange(t, late(), pt(5, 5, 0), with(late(), func(k *api.KHeap) {
		k.Clock.Field.Points[2].A, k.Heap = 5, numbers(5, 2, 1)
		k.Clock.Certs = api.Certs{Next: 6, List: []api.Held{held(4, 5, 2), held(5, 5, 1)}}
		ahead(k, 5, frac(5, 2))
	}), api.OK)
}

// P14.3: the ID of the point rises, sinks or stays; both as far as it can.
func TestChangeMoves(t *testing.T) {
	seven := []int64{10, 5, 9, 1, 2, 8, 7}
	for _, x := range []struct {
		heights []int64
		id      int
		height  int64
		heap    []int
	}{
		{[]int64{4}, 10, 9, numbers(10)}, {[]int64{4, 3}, 10, 2, numbers(20, 10)}, {[]int64{4, 3}, 10, 3, numbers(10, 20)}, {[]int64{4, 3}, 20, 4, numbers(10, 20)}, {[]int64{4, 3}, 20, 5, numbers(20, 10)},
		// It rises to the first place, or to one on the way.
		{seven, 40, 11, numbers(40, 10, 30, 20, 50, 60, 70)}, {seven, 40, 6, numbers(10, 40, 30, 20, 50, 60, 70)}, {seven, 70, 11, numbers(70, 20, 10, 40, 50, 60, 30)}, {seven, 60, 10, numbers(10, 20, 60, 40, 50, 30, 70)},
		{seven, 30, 11, numbers(30, 20, 10, 40, 50, 60, 70)}, {seven, 20, 11, numbers(20, 10, 30, 40, 50, 60, 70)}, {seven, 50, 11, numbers(50, 10, 30, 40, 20, 60, 70)},
		// It sinks to the bottom, or to a place on the way; to the child that is ahead of the other one.
		{seven, 10, 0, numbers(30, 20, 60, 40, 50, 10, 70)}, {seven, 10, 8, numbers(30, 20, 10, 40, 50, 60, 70)}, {seven, 10, 7, numbers(30, 20, 60, 40, 50, 10, 70)}, {seven, 20, 0, numbers(10, 50, 30, 40, 20, 60, 70)}, {seven, 30, 0, numbers(10, 20, 60, 40, 50, 30, 70)},
		{[]int64{10, 9, 8, 7, 6, 5, 4}, 10, 0, numbers(20, 40, 30, 10, 50, 60, 70)}, {[]int64{10, 9, 8, 6, 7, 5, 4}, 10, 0, numbers(20, 50, 30, 40, 10, 60, 70)}, {[]int64{10, 8, 9, 7, 6, 4, 5}, 10, 0, numbers(30, 20, 70, 40, 50, 60, 10)},
		// Where just one child is ahead it is this one, also where it is the only one.
		{seven, 10, 6, numbers(30, 20, 60, 40, 50, 10, 70)}, {[]int64{10, 9, 5}, 10, 6, numbers(20, 10, 30)}, {[]int64{10, 5, 9}, 10, 6, numbers(30, 20, 10)}, {[]int64{10, 9, 8, 7}, 20, 1, numbers(10, 40, 30, 20)}, {[]int64{10, 9, 8, 7}, 10, 1, numbers(20, 40, 30, 10)},
		// It stays: it is ahead of its children still, and behind its parent.
		{seven, 10, 100, numbers(10, 20, 30, 40, 50, 60, 70)}, {seven, 10, 9, numbers(10, 20, 30, 40, 50, 60, 70)}, {seven, 20, 10, numbers(10, 20, 30, 40, 50, 60, 70)}, {seven, 20, 3, numbers(10, 20, 30, 40, 50, 60, 70)}, {seven, 40, -5, numbers(10, 20, 30, 40, 50, 60, 70)}, {seven, 70, 9, numbers(10, 20, 30, 40, 50, 60, 70)},
		// At one place those with the lesser IDs are ahead.
		{[]int64{4, 4, 4, 4, 4}, 10, 3, numbers(20, 40, 30, 10, 50)}, {[]int64{4, 4, 4, 4, 4}, 50, 5, numbers(50, 10, 30, 40, 20)}, {[]int64{5, 4, 4, 4, 4}, 10, 4, numbers(10, 20, 30, 40, 50)}, {[]int64{5, 4, 4, 4, 4}, 50, 5, numbers(10, 50, 30, 40, 20)},
	} {
		k := stand(x.heights...)
		r := toChange(t, k, pt(x.id, x.height, 0))
		wantIDs(t, r, k, x.id, x.heap)
		if p, _ := point(r.Clock.Field, x.id); p != pt(x.id, x.height, 0) || len(r.Clock.Field.Points) != len(x.heights) {
			t.Error(x, r)
		}
	}
}

// P14.3: who is ahead is told at Now, and by the speeds among points at one place.
func TestChangeAtNow(t *testing.T) {
	for _, x := range []struct {
		now  api.Ratio
		p    api.Point
		heap []int
	}{
		// At 1 all are at one place.
		{whole(1), pt(2, 0, 0), numbers(0, 1, 2)}, {whole(1), pt(2, 1, -1), numbers(0, 1, 2)}, {whole(1), pt(2, -1, 1), numbers(2, 1, 0)}, {whole(1), pt(0, 2, -2), numbers(1, 0, 2)}, {whole(1), pt(0, 3, -3), numbers(1, 0, 2)}, {whole(1), pt(0, 1, -1), numbers(0, 1, 2)},
		{frac(fine+1, fine), pt(2, 1, -1), numbers(0, 1, 2)}, {frac(fine+1, fine), pt(2, 1, 0), numbers(2, 1, 0)}, {whole(most), pt(2, coord, 0), numbers(2, 1, 0)}, {whole(most), pt(2, -1, 0), numbers(0, 1, 2)}, {whole(most), pt(2, coord, -1), numbers(0, 1, 2)}, {whole(most), pt(2, -coord, 1), numbers(2, 1, 0)},
	} {
		k := heapOf(x.now, level(3), 0, 1, 2)
		wantIDs(t, toChange(t, k, x.p), k, x.p.ID, x.heap)
	}
}

// P14.3: a point that is changed to the same course changes nothing, though numbers and places of events have run out.
func TestChangeToTheSame(t *testing.T) {
	for _, k := range goodHeaps() {
		for _, other := range []api.KHeap{k, clocked(k, counted(k.Clock, 0)), clocked(k, blocked(k.Clock))} {
			if !isValid(other) {
				continue
			}
			for _, p := range k.Clock.Field.Points {
				wantChange(t, other, p, other, api.OK)
			}
		}
	}
}

// P14.3: ErrBad for a point that is not valid comes before ErrNone for one whose ID is not there, and this before the error of the clock.
func TestChangeErrors(t *testing.T) {
	for _, k := range []api.KHeap{early(), late(), stand(), stand(3), build(t, level(64), whole(1)), clocked(early(), counted(early().Clock, 0)), clocked(late(), blocked(late().Clock))} {
		for _, p := range badPoints() {
			wantNoChange(t, k, p, api.ErrBad)
		}
		for _, id := range numbers(3, 4, 6, 64, 700, top) {
			if _, there := point(k.Clock.Field, id); there {
				continue
			}
			for _, p := range []api.Point{pt(id, 0, 0), pt(id, 9, -1), pt(id, coord, coord), pt(id, -9, 3)} {
				wantNoChange(t, k, p, api.ErrNone)
			}
			wantNoChange(t, k, pt(id, coord+1, 0), api.ErrBad)
			wantNoChange(t, k, pt(id, 0, -coord-1), api.ErrBad)
		}
		for _, p := range k.Clock.Field.Points {
			wantNoChange(t, k, pt(p.ID, coord+1, p.B), api.ErrBad)
			wantNoChange(t, k, pt(p.ID, p.A, -coord-1), api.ErrBad)
		}
	}
}

// P14.3: a heap that is not valid is ErrBad, whatever the point is.
func TestChangeBad(t *testing.T) {
	for _, list := range badHeaps() {
		for i, k := range list {
			for _, p := range []api.Point{pt(70, 0, 0), pt(2, 6, -1), pt(1, 9, 9), badPoints()[i%9]} {
				wantNoChange(t, k, p, api.ErrBad)
			}
		}
	}
}

// P14.3: where the numbers run out it is ErrFull, and with just as many as there are new edges it is not.
func TestChangeNumbers(t *testing.T) {
	seven := stand(10, 5, 9, 1, 2, 8, 7)
	for _, x := range []struct {
		k     api.KHeap
		p     api.Point
		needs int
	}{
		{stand(4), pt(10, 1, 1), 0}, {stand(4, 3), pt(10, 2, 0), 1}, {stand(4, 3), pt(20, 5, 0), 1}, {early(), pt(5, 0, 1), 0}, {early(), pt(5, 7, 0), 2}, {late(), pt(5, -9, 3), 0},
		{seven, pt(40, 11, 0), 3}, {seven, pt(40, 6, 0), 3}, {seven, pt(10, 0, 0), 3}, {seven, pt(20, 0, 0), 3}, {seven, pt(20, 11, 0), 4},
	} {
		for left := range x.needs {
			wantNoChange(t, clocked(x.k, counted(x.k.Clock, left)), x.p, api.ErrFull)
		}
		k := clocked(x.k, counted(x.k.Clock, x.needs))
		if r := toChange(t, k, x.p); r.Clock.Certs.Next != limit || !isValid(r) {
			t.Error(x, r)
		}
	}
}

// P14.3: where no place of an event can be taken it is ErrFull: for an edge that stays, so that the clock can't be altered, and for one that is new.
func TestChangePlaces(t *testing.T) {
	worn := clocked(late(), blocked(late().Clock))
	wantNoChange(t, worn, pt(5, -9, 3), api.ErrFull)
	wantNoChange(t, worn, pt(5, 5, 0), api.ErrFull)
	wantIDs(t, toChange(t, worn, pt(5, -9, 2)), worn, 5, numbers(1, 2, 5))
	// 2 and 1 have an event still, so that of 5 alone is gone.
	worn = clocked(early(), usedUp(early().Clock, 1))
	wantIDs(t, toChange(t, worn, pt(5, 0, 1)), worn, 5, numbers(2, 1, 5))
	worn = toChange(t, worn, pt(5, 0, -1))
	wantNoChange(t, worn, pt(5, 0, 0), api.ErrFull)
	wantIDs(t, toChange(t, worn, pt(5, -7, -2)), worn, 5, numbers(2, 1, 5))
	// 5 comes to the first place, and both slots are given back.
	wantNoChange(t, clocked(early(), usedUp(early().Clock, 1)), pt(5, 7, 0), api.ErrFull)
	wantIDs(t, toChange(t, clocked(early(), usedUp(early().Clock, 0)), pt(5, 7, 0)), early(), 5, numbers(5, 1, 2))
}

// P14.3: Change, against the definition, also where numbers or places of events are scarce.
func TestChangeByDefinition(t *testing.T) {
	m := mixer(164)
	seen := map[api.Errno]int{}
	rose, sank, stayed := 0, 0, 0
	for i := range 2400 {
		k := m.scarce(m.kheap(i % 16))
		if i%100 == 0 {
			k = m.kheap(m.pick(62, 63, 64))
		}
		p := m.there(k)
		want, e := changed(k, p)
		wantChange(t, k, p, want, e)
		seen[e]++
		if e != api.OK {
			continue
		}
		was, is := slices.Index(k.Heap, p.ID), slices.Index(want.Heap, p.ID)
		switch {
		case is < was:
			rose++
		case is > was:
			sank++
		default:
			stayed++
		}
	}
	for e, n := range map[api.Errno]int{api.OK: 1200, api.ErrFull: 50, api.ErrNone: 100, api.ErrBad: 30} {
		if seen[e] < n {
			t.Error(e, "seen only", seen[e])
		}
	}
	if min(rose, sank, stayed) < 100 {
		t.Error(rose, sank, stayed)
	}
}
