package hedit_test

import (
	"slices"
	"testing"

	"peloton/api"
	"peloton/hedit"
)

func wantPut(t *testing.T, k api.KHeap, p api.Point, want api.KHeap, e api.Errno) {
	t.Helper()
	if r, g := hedit.Put(k, p); !same(r, want) || g != e {
		t.Fatal("put", k, p, r, g, want, e)
	}
}

func wantNoPut(t *testing.T, k api.KHeap, p api.Point, e api.Errno) {
	t.Helper()
	wantPut(t, k, p, api.KHeap{}, e)
}

// more is the heap of the chapter's examples after 7 was put in, as all of it is.
func more() api.KHeap {
	k := api.KHeap{Heap: numbers(7, 1, 5, 2)}
	k.Clock = late().Clock
	k.Clock.Field = points(pt(1, 0, 2), pt(2, 6, -1), pt(5, 0, 0), pt(7, 9, -1))
	// The certificate of 1 and 5 is retired; those of 7 with its children come.
	k.Clock.Certs = api.Certs{Next: 6, List: []api.Held{held(2, 1, 2), held(4, 7, 1), held(5, 7, 5)}}
	k.Clock.Agenda = fresh(2)
	k.Clock.Agenda.Slots.Uses[0], k.Clock.Agenda.Slots.Uses[1] = 2, 2
	k.Clock.Agenda.Where[0], k.Clock.Agenda.Where[1] = 1, 0
	k.Clock.Agenda.Heap = []api.Event{event(whole(3), 4, 1, 2), event(whole(9), 5, 0, 2)}
	k.Clock.Due = []api.Due{{Number: 4, Handle: api.Handle{Index: 1, Use: 2}}, {Number: 5, Handle: api.Handle{Index: 0, Use: 2}}}
	return k
}

// P14.1: the heap of the example.
func TestPutExample(t *testing.T) {
	wantPut(t, late(), pt(7, 9, -1), more(), api.OK)
}

// P14.1: a point rises as far as it is ahead, from the place behind the heap; into heaps of no points, of one, and of more.
func TestPutRises(t *testing.T) {
	seven := []int64{10, 5, 9, 1, 2, 8, 7}
	for _, x := range []struct {
		heights []int64
		p       api.Point
		heap    []int
	}{
		{nil, pt(0, 0, 0), numbers(0)}, {nil, pt(top, coord, -coord), numbers(top)},
		{[]int64{9}, pt(5, 8, 0), numbers(10, 5)}, {[]int64{9}, pt(5, 10, 0), numbers(5, 10)}, {[]int64{9}, pt(15, 8, 9), numbers(10, 15)}, {[]int64{9}, pt(15, 10, -9), numbers(15, 10)},
		// At one place the faster one is ahead, and then the one with the lesser ID.
		{[]int64{9}, pt(5, 9, 0), numbers(5, 10)}, {[]int64{9}, pt(15, 9, 0), numbers(10, 15)}, {[]int64{9}, pt(15, 9, 1), numbers(15, 10)}, {[]int64{9}, pt(5, 9, -1), numbers(10, 5)},
		// The second child of the first place has it for its parent.
		{[]int64{9, 4}, pt(5, 8, 0), numbers(10, 20, 5)}, {[]int64{9, 4}, pt(5, 11, 0), numbers(5, 20, 10)}, {[]int64{9, 4}, pt(5, 1, 0), numbers(10, 20, 5)},
		{[]int64{9, 4, 8}, pt(5, 3, 0), numbers(10, 20, 30, 5)}, {[]int64{9, 4, 8}, pt(5, 6, 0), numbers(10, 5, 30, 20)}, {[]int64{9, 4, 8}, pt(5, 11, 0), numbers(5, 10, 30, 20)},
		{[]int64{9, 4, 8, 1}, pt(5, 3, 0), numbers(10, 20, 30, 40, 5)}, {[]int64{9, 4, 8, 1}, pt(5, 6, 0), numbers(10, 5, 30, 40, 20)},
		{[]int64{9, 4, 8, 1, 2}, pt(5, 6, 0), numbers(10, 20, 30, 40, 50, 5)}, {[]int64{9, 4, 8, 1, 2, 7}, pt(5, 6, 0), numbers(10, 20, 30, 40, 50, 60, 5)},
		{seven, pt(5, 0, 0), numbers(10, 20, 30, 40, 50, 60, 70, 5)}, {seven, pt(5, 1, 0), numbers(10, 20, 30, 5, 50, 60, 70, 40)}, {seven, pt(45, 1, 0), numbers(10, 20, 30, 40, 50, 60, 70, 45)},
		{seven, pt(5, 6, 0), numbers(10, 5, 30, 20, 50, 60, 70, 40)}, {seven, pt(5, 11, 0), numbers(5, 10, 30, 20, 50, 60, 70, 40)}, {seven, pt(75, 10, 0), numbers(10, 75, 30, 20, 50, 60, 70, 40)},
	} {
		k := stand(x.heights...)
		r := toPut(t, k, x.p)
		wantIDs(t, r, k, x.p.ID, x.heap)
		if p, ok := point(r.Clock.Field, x.p.ID); !ok || p != x.p || len(r.Clock.Field.Points) != len(x.heights)+1 {
			t.Error(x, r)
		}
		// Whose parent stays keeps its number.
		kept := 0
		for _, h := range r.Clock.Certs.List {
			if h.Number < k.Clock.Certs.Next {
				kept++
			}
			if i, ok := slices.BinarySearchFunc(k.Clock.Certs.List, h.Number, func(h api.Held, n int) int { return h.Number - n }); ok && k.Clock.Certs.List[i] != h {
				t.Error(x, r)
			}
		}
		if n := len(slices.DeleteFunc(edgesOf(x.heap), func(y api.Cert) bool { return !slices.Contains(edgesOf(k.Heap), y) })); kept != n {
			t.Error(x, r, kept, n)
		}
	}
}

// P14.1: who is ahead is told at Now: the same point rises in an early heap, and not in a late one.
func TestPutAtNow(t *testing.T) {
	for _, x := range []struct {
		now  api.Ratio
		heap []int
	}{
		{whole(-1), numbers(7, 9)}, {frac(fine-1, fine), numbers(7, 9)}, {whole(1), numbers(9, 7)}, {frac(fine+1, fine), numbers(9, 7)}, {whole(most), numbers(9, 7)}, {whole(-most), numbers(7, 9)},
	} {
		for _, p := range []api.Point{pt(7, 1, 0), pt(9, 0, 1)} {
			k := heapOf(x.now, points(p), p.ID)
			other := pt(16-p.ID, 1-p.A, 1-p.B)
			wantIDs(t, toPut(t, k, other), k, other.ID, x.heap)
		}
	}
}

// P14.1: a heap of 63 points takes one more, which rises by all places, by some, or by none; one of 64 takes none.
func TestPutLast(t *testing.T) {
	for _, way := range []func(n int) api.Field{level, crowd, standing} {
		k := build(t, way(63), whole(0))
		for _, p := range []api.Point{pt(63, coord, -coord), pt(63, -coord, coord), pt(63, 20, -20), pt(top, -31, 5)} {
			want, e := put(k, p)
			wantPut(t, k, p, want, e)
			if e != api.OK || len(want.Heap) != 64 {
				t.Error(p, want, e)
			}
			wantNoPut(t, want, pt(64, p.A, p.B), api.ErrFull)
		}
	}
}

// P14.1: ErrBad for a point that is not valid comes before ErrTwice for one whose ID is there, and this before ErrFull for a field that is full; then comes the error of the clock.
func TestPutErrors(t *testing.T) {
	full := build(t, level(64), whole(0))
	for _, k := range []api.KHeap{early(), late(), full, stand(), stand(3), clocked(early(), counted(early().Clock, 0)), clocked(full, counted(full.Clock, 0))} {
		for _, p := range badPoints() {
			wantNoPut(t, k, p, api.ErrBad)
		}
		for _, p := range k.Clock.Field.Points {
			wantNoPut(t, k, p, api.ErrTwice)
			wantNoPut(t, k, pt(p.ID, 5-p.A, 3-p.B), api.ErrTwice)
			wantNoPut(t, k, pt(p.ID, coord+1, 0), api.ErrBad)
			wantNoPut(t, k, pt(p.ID, 0, -coord-1), api.ErrBad)
		}
	}
	for _, k := range []api.KHeap{full, clocked(full, counted(full.Clock, 0)), build(t, many(64, 100, func(i int64) (a, b int64) { return i % 3, i % 5 }), frac(7, 2))} {
		for _, id := range numbers(64, 99, 164, 700, top) {
			wantNoPut(t, k, pt(id, 0, 0), api.ErrFull)
			wantNoPut(t, k, pt(id, 0, coord+1), api.ErrBad)
		}
	}
}

// P14.1: a heap that is not valid is ErrBad, whatever the point is.
func TestPutBad(t *testing.T) {
	for _, list := range badHeaps() {
		for i, k := range list {
			for _, p := range []api.Point{pt(70, 0, 0), pt(2, 1, 1), badPoints()[i%9]} {
				wantNoPut(t, k, p, api.ErrBad)
			}
		}
	}
}

// P14.1: where the numbers run out it is ErrFull, and with just as many as there are new edges it is not.
func TestPutNumbers(t *testing.T) {
	for _, x := range []struct {
		k     api.KHeap
		p     api.Point
		needs int
	}{
		{stand(), pt(5, 1, 1), 0}, {stand(9), pt(5, 1, 0), 1}, {stand(9), pt(5, 11, 0), 1}, {early(), pt(7, -100, 0), 1}, {early(), pt(7, 1, -1), 2}, {early(), pt(7, 9, -1), 2},
		// It takes the child of the place at which it stays with it.
		{stand(9, 4, 8, 1, 2), pt(5, 7, 0), 1}, {stand(9, 4, 8, 1), pt(5, 6, 0), 3}, {stand(10, 5, 9, 1, 2, 8, 7), pt(5, 11, 0), 3},
	} {
		for left := range x.needs {
			wantNoPut(t, clocked(x.k, counted(x.k.Clock, left)), x.p, api.ErrFull)
		}
		k := clocked(x.k, counted(x.k.Clock, x.needs))
		if r := toPut(t, k, x.p); r.Clock.Certs.Next != limit || !isValid(r) {
			t.Error(x, r)
		}
	}
}

// P14.1: where no place of an event can be taken it is ErrFull, and where no new edge fails it is not.
func TestPutPlaces(t *testing.T) {
	k := clocked(early(), blocked(early().Clock))
	wantNoPut(t, k, pt(7, -9, 3), api.ErrFull)
	wantIDs(t, toPut(t, k, pt(7, -9, 2)), k, 7, numbers(2, 1, 5, 7))
	// The certificate of 2 with 5 goes, so its slot is the one that is taken next.
	k = clocked(early(), usedUp(early().Clock, 1))
	wantNoPut(t, k, pt(7, 9, -1), api.ErrFull)
	wantIDs(t, toPut(t, k, pt(7, -9, 3)), k, 7, numbers(2, 1, 5, 7))
	// With the slot of the certificate that goes there is no need of the other one.
	k = clocked(four(), blocked(four().Clock))
	wantIDs(t, toPut(t, k, pt(7, 3, 1)), k, 7, numbers(3, 2, 1, 0, 7))
	wantNoPut(t, k, pt(7, 3, 2), api.ErrFull)
	k = clocked(early(), blocked(early().Clock))
	wantIDs(t, toPut(t, k, pt(7, 5, -1)), k, 7, numbers(2, 7, 5, 1))
	wantIDs(t, toPut(t, k, pt(7, 9, 1)), k, 7, numbers(7, 2, 5, 1))
}

// P14.1: Put, against the definition, also where numbers or places of events are scarce.
func TestPutByDefinition(t *testing.T) {
	m := mixer(161)
	seen := map[api.Errno]int{}
	for i := range 2400 {
		k := m.scarce(m.kheap(i % 16))
		if i%100 == 0 {
			k = m.kheap(m.pick(62, 63, 64))
		}
		p := m.point(k)
		want, e := put(k, p)
		wantPut(t, k, p, want, e)
		seen[e]++
	}
	for e, n := range map[api.Errno]int{api.OK: 1200, api.ErrFull: 100, api.ErrTwice: 100, api.ErrBad: 30} {
		if seen[e] < n {
			t.Error(e, "seen only", seen[e])
		}
	}
}
