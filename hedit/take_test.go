package hedit_test

import (
	"slices"
	"testing"

	"peloton/api"
	"peloton/hedit"
)

func wantTake(t *testing.T, k api.KHeap, id int, want api.KHeap, e api.Errno) {
	t.Helper()
	if r, g := hedit.Take(k, id); !same(r, want) || g != e {
		t.Fatal("take", k, id, r, g, want, e)
	}
}

func wantNoTake(t *testing.T, k api.KHeap, id int, e api.Errno) {
	t.Helper()
	wantTake(t, k, id, api.KHeap{}, e)
}

// less is the heap of the chapter's examples after 7 was put in and taken out, as all of it is.
func less() api.KHeap {
	k := late()
	k.Clock.Certs = api.Certs{Next: 7, List: []api.Held{held(2, 1, 2), held(6, 1, 5)}}
	s := k.Clock.Agenda.Slots
	s.Uses[0], s.Uses[1], s.Free[198], s.Free[199] = 2, 2, 1, 0
	return k
}

// P14.2: the heap of the example.
func TestTakeExample(t *testing.T) {
	wantTake(t, more(), 7, less(), api.OK)
}

// P14.2: the last ID comes to the place of the one that is taken out, and rises, sinks or stays there.
func TestTakePlaces(t *testing.T) {
	seven := []int64{10, 5, 9, 1, 2, 8, 7}
	fifteen := []int64{100, 10, 90, 5, 6, 80, 70, 1, 2, 3, 4, 60, 61, 62, 63}
	for _, x := range []struct {
		heights []int64
		id      int
		heap    []int
	}{
		// The only point, the last one, and the first one.
		{[]int64{4}, 10, nil}, {[]int64{4, 3}, 20, numbers(10)}, {[]int64{4, 3}, 10, numbers(20)}, {[]int64{4, 4}, 10, numbers(20)},
		{[]int64{4, 3, 2}, 30, numbers(10, 20)}, {[]int64{4, 3, 2}, 20, numbers(10, 30)}, {[]int64{4, 3, 2}, 10, numbers(20, 30)}, {[]int64{4, 2, 3}, 10, numbers(30, 20)},
		{seven, 70, numbers(10, 20, 30, 40, 50, 60)},
		// It rises, by one place or by more.
		{seven, 40, numbers(10, 70, 30, 20, 50, 60)}, {seven, 50, numbers(10, 70, 30, 40, 20, 60)},
		{fifteen, 80, numbers(10, 150, 30, 20, 50, 60, 70, 40, 90, 100, 110, 120, 130, 140)}, {fifteen, 110, numbers(10, 150, 30, 40, 20, 60, 70, 80, 90, 100, 50, 120, 130, 140)},
		{fifteen, 40, numbers(10, 150, 30, 20, 50, 60, 70, 80, 90, 100, 110, 120, 130, 140)},
		// It stays.
		{seven, 20, numbers(10, 70, 30, 40, 50, 60)}, {seven, 60, numbers(10, 20, 30, 40, 50, 70)}, {fifteen, 20, numbers(10, 150, 30, 40, 50, 60, 70, 80, 90, 100, 110, 120, 130, 140)},
		{fifteen, 120, numbers(10, 20, 30, 40, 50, 60, 70, 80, 90, 100, 110, 150, 130, 140)},
		// It sinks, by one place or by more, and there to the child that is ahead of the other one, or to the only one.
		{seven, 30, numbers(10, 20, 60, 40, 50, 70)}, {seven, 10, numbers(30, 20, 60, 40, 50, 70)}, {fifteen, 10, numbers(30, 20, 60, 40, 50, 150, 70, 80, 90, 100, 110, 120, 130, 140)},
		{fifteen, 30, numbers(10, 20, 60, 40, 50, 150, 70, 80, 90, 100, 110, 120, 130, 140)}, {[]int64{9, 7, 8, 5, 6, 2}, 10, numbers(30, 20, 60, 40, 50)},
		{[]int64{9, 8, 7, 5, 6, 2}, 10, numbers(20, 50, 30, 40, 60)}, {[]int64{9, 8, 7, 6, 5, 2}, 10, numbers(20, 40, 30, 60, 50)}, {[]int64{9, 8, 7, 6, 2}, 10, numbers(20, 40, 30, 50)},
		// At one place those with the lesser IDs are ahead.
		{[]int64{4, 4, 4, 4}, 10, numbers(20, 40, 30)}, {[]int64{4, 4, 4, 4, 4}, 10, numbers(20, 40, 30, 50)}, {[]int64{4, 4, 4, 4, 4}, 20, numbers(10, 40, 30, 50)},
	} {
		k := stand(x.heights...)
		r := toTake(t, k, x.id)
		wantIDs(t, r, k, x.id, x.heap)
		if _, there := point(r.Clock.Field, x.id); there || len(r.Clock.Field.Points) != len(x.heights)-1 {
			t.Error(x, r)
		}
	}
}

// P14.2: who is ahead is told at Now, also among points at one place.
func TestTakeAtNow(t *testing.T) {
	// All are at one place at 1; before that those with the greater IDs are ahead, and from then on the others.
	for _, x := range []struct {
		k    api.KHeap
		id   int
		heap []int
	}{
		{heapOf(frac(fine-1, fine), level(5), 4, 3, 2, 1, 0), 4, numbers(3, 1, 2, 0)}, {heapOf(frac(fine-1, fine), level(5), 4, 2, 3, 1, 0), 4, numbers(3, 2, 0, 1)},
		{heapOf(whole(1), level(5), 0, 1, 2, 3, 4), 0, numbers(1, 3, 2, 4)}, {heapOf(whole(1), level(5), 0, 2, 1, 3, 4), 0, numbers(1, 2, 4, 3)}, {heapOf(whole(2), level(5), 0, 2, 1, 3, 4), 0, numbers(1, 2, 4, 3)},
		{heapOf(whole(1), level(6), 0, 2, 1, 3, 4, 5), 3, numbers(0, 2, 1, 5, 4)}, {heapOf(whole(1), level(6), 0, 3, 1, 4, 5, 2), 4, numbers(0, 2, 1, 3, 5)},
	} {
		wantIDs(t, toTake(t, x.k, x.id), x.k, x.id, x.heap)
	}
}

// P14.2: each point of a heap of 64 can be taken out, and one after the other all of them.
func TestTakeAll(t *testing.T) {
	m := mixer(162)
	for _, way := range []func(n int) api.Field{level, crowd, standing} {
		k := build(t, way(64), whole(0))
		for _, id := range k.Heap {
			want, e := taken(k, id)
			wantTake(t, k, id, want, e)
		}
		for _, id := range mixed(&m, k.Heap) {
			want, e := taken(k, id)
			wantTake(t, k, id, want, e)
			k = want
		}
		if len(k.Heap) != 0 || len(k.Clock.Certs.List) != 0 || len(k.Clock.Agenda.Heap) != 0 || !isValid(k) {
			t.Error(k)
		}
	}
}

// P14.2: an ID that is not there is ErrNone, whatever it is, also where numbers have run out.
func TestTakeErrors(t *testing.T) {
	for _, k := range []api.KHeap{early(), late(), stand(), stand(3), build(t, level(64), whole(1)), clocked(early(), counted(early().Clock, 0))} {
		for _, id := range numbers(-1, -2, 3, 4, 6, 64, 700, top, top+1, 1<<16+2, 1<<32+1, most, least) {
			if _, there := point(k.Clock.Field, id); !there {
				wantNoTake(t, k, id, api.ErrNone)
			}
		}
	}
	for _, id := range numbers(-1, 0, top) {
		wantNoTake(t, api.KHeap{Clock: clockOf(whole(7), api.Field{})}, id, api.ErrNone)
	}
}

// P14.2: a heap that is not valid is ErrBad, whatever the ID is.
func TestTakeBad(t *testing.T) {
	for _, list := range badHeaps() {
		for i, k := range list {
			for _, id := range numbers(2, 70, -1+i%9) {
				wantNoTake(t, k, id, api.ErrBad)
			}
			for _, id := range k.Heap[:min(len(k.Heap), 2)] {
				wantNoTake(t, k, id, api.ErrBad)
			}
		}
	}
}

// P14.2: where the numbers run out it is ErrFull, and with just as many as there are new edges it is not.
func TestTakeNumbers(t *testing.T) {
	for _, x := range []struct {
		k         api.KHeap
		id, needs int
	}{
		{stand(4), 10, 0}, {stand(4, 3), 20, 0}, {stand(4, 3), 10, 0}, {early(), 5, 0}, {early(), 1, 0}, {early(), 2, 1}, {four(), 1, 1}, {four(), 2, 1}, {four(), 3, 1},
		{stand(10, 5, 9, 1, 2, 8, 7), 70, 0}, {stand(10, 5, 9, 1, 2, 8, 7), 60, 0}, {stand(10, 5, 9, 1, 2, 8, 7), 30, 2}, {stand(10, 5, 9, 1, 2, 8, 7), 20, 3}, {stand(10, 5, 9, 1, 2, 8, 7), 10, 2}, {stand(10, 5, 9, 1, 2, 8, 7), 40, 3}, {more(), 7, 1},
	} {
		for left := range x.needs {
			wantNoTake(t, clocked(x.k, counted(x.k.Clock, left)), x.id, api.ErrFull)
		}
		k := clocked(x.k, counted(x.k.Clock, x.needs))
		if r := toTake(t, k, x.id); r.Clock.Certs.Next != limit || !isValid(r) {
			t.Error(x, r)
		}
	}
}

// P14.2: where no place of an event can be taken it is ErrFull, and where no new edge fails, or one gives its place back, it is not.
func TestTakePlacesOfEvents(t *testing.T) {
	// 3 and 2 meet at 2, 3 and 0 at 6, and 2 and 0 not any more.
	k := heapOf(whole(0), points(pt(0, 3, 1), pt(1, 4, -1), pt(2, 5, 2), pt(3, 9, 0)), 3, 2, 1, 0)
	wantNoTake(t, clocked(k, blocked(k.Clock)), 1, api.ErrFull)
	wantIDs(t, toTake(t, k, 1), k, 1, numbers(3, 2, 0))
	wantIDs(t, toTake(t, clocked(k, blocked(k.Clock)), 0), k, 0, numbers(3, 2, 1))
	// The slot of 3 and 2 is given back, and taken again for 3 and 0.
	wantIDs(t, toTake(t, clocked(k, blocked(k.Clock)), 2), k, 2, numbers(3, 0, 1))
	wantNoTake(t, clocked(k, usedUp(k.Clock, 0)), 2, api.ErrFull)
	wantNoTake(t, clocked(four(), usedUp(four().Clock, 2)), 2, api.ErrFull)
	wantIDs(t, toTake(t, clocked(four(), blocked(four().Clock)), 2), four(), 2, numbers(3, 0, 1))
	wantIDs(t, toTake(t, clocked(four(), usedUp(four().Clock, 2)), 3), four(), 3, numbers(2, 0, 1))
}

// P14.2: Take, against the definition, also where numbers or places of events are scarce.
func TestTakeByDefinition(t *testing.T) {
	m := mixer(163)
	seen := map[api.Errno]int{}
	rose, sank, stayed := 0, 0, 0
	for i := range 2400 {
		k := m.scarce(m.kheap(i % 22))
		if i%100 == 0 {
			k = m.kheap(m.pick(62, 63, 64))
		}
		id := m.id(k)
		want, e := taken(k, id)
		wantTake(t, k, id, want, e)
		seen[e]++
		if e == api.OK && len(want.Heap) > 1 && id != k.Heap[len(want.Heap)] {
			was, is := slices.Index(k.Heap, id), slices.Index(want.Heap, k.Heap[len(want.Heap)])
			switch {
			case is < was:
				rose++
			case is > was:
				sank++
			default:
				stayed++
			}
		}
	}
	for e, n := range map[api.Errno]int{api.OK: 1200, api.ErrFull: 50, api.ErrNone: 100} {
		if seen[e] < n {
			t.Error(e, "seen only", seen[e])
		}
	}
	if min(rose, sank, stayed) < 40 {
		t.Error(rose, sank, stayed)
	}
}
