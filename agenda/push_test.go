package agenda_test

import (
	"testing"

	"peloton/agenda"
	"peloton/api"
)

func wantPush(t *testing.T, a api.Agenda, at api.Ratio, number int, want api.Agenda, h api.Handle, e api.Errno) {
	t.Helper()
	if r, g, f := agenda.Push(a, at, number); !same(r, want) || g != h || f != e {
		t.Fatal("push", a, at, number, r, g, f, want, h, e)
	}
}

func wantNoPush(t *testing.T, a api.Agenda, at api.Ratio, number int, e api.Errno) {
	t.Helper()
	wantPush(t, a, at, number, api.Agenda{}, api.Handle{}, e)
}

// seven is an agenda of eight slots with the times 0, 10, 20 and so on.
func seven() api.Agenda {
	s := table(numbers(1, 1, 1, 1, 1, 1, 1, 4), "xxxxxxx.", 7)
	heap := row()
	for i := range 7 {
		heap = append(heap, event(whole(int64(10*i)), 20+i, i, 1))
	}
	return of(s, heap...)
}

// P7.2: Push into an agenda without events, and next to others, up to the least one of all.
func TestPush(t *testing.T) {
	one := of(table(numbers(1), "x"), event(whole(5), 8, 0, 1))
	wantPush(t, fresh(1), whole(5), 8, one, handle(0, 1), api.OK)
	used := table(numbers(1, 1, 1, 1, 1, 1, 1, 5), "xxxxxxxx")
	old := seven().Heap
	for _, c := range []struct {
		at     api.Ratio
		number int
		// So many events are above the new one, of those at 0, 1 and 3, which are above the place 7.
		above int
	}{
		// By times: behind 30, between 10 and 30, between 0 and 10, and before 0.
		{whole(31), 0, 3}, {whole(most), 0, 3}, {frac(301, 10), 0, 3},
		{whole(29), 99, 2}, {frac(299, 10), 0, 2}, {whole(11), 0, 2}, {frac(101, 10), 99, 2},
		{whole(9), 99, 1}, {frac(1, most), 99, 1}, {frac(99, 10), 0, 1},
		{whole(-1), 99, 0}, {frac(-1, most), limit, 0}, {whole(-most), 0, 0},
		// By numbers, where the times are the same.
		{whole(30), 22, 2}, {whole(30), 27, 3}, {whole(30), 0, 2}, {whole(30), limit, 3},
		{whole(10), 19, 1}, {whole(10), 27, 2}, {whole(0), 19, 0}, {whole(0), 27, 1}, {whole(0), 0, 0}, {whole(0), limit, 1},
	} {
		x := event(c.at, c.number, 7, 5)
		want := map[int][]api.Event{
			3: row(old[0], old[1], old[2], old[3], old[4], old[5], old[6], x),
			2: row(old[0], old[1], old[2], x, old[4], old[5], old[6], old[3]),
			1: row(old[0], x, old[2], old[1], old[4], old[5], old[6], old[3]),
			0: row(x, old[0], old[2], old[1], old[4], old[5], old[6], old[3]),
		}[c.above]
		if c.number >= 20 && c.number <= 26 {
			wantNoPush(t, seven(), c.at, c.number, api.ErrTwice)
			continue
		}
		wantPush(t, seven(), c.at, c.number, of(used, want...), handle(7, 5), api.OK)
	}
}

// P7.2: the slot that is taken is the last one of Free, with one more use.
func TestPushTakesSlot(t *testing.T) {
	a := fresh(3)
	a.Slots = table(numbers(7, 0, 3), "...", 0, 2, 1)
	for i, h := range []api.Handle{handle(1, 1), handle(2, 4), handle(0, 8)} {
		r, g := push(t, a, whole(int64(i)), i)
		if g != h || r.Heap[i].Handle != h || r.Where[h.Index] != i {
			t.Fatal(a, r, g, h)
		}
		a = r
	}
	wantNoPush(t, a, whole(0), 3, api.ErrFull)
}

// P7.2: numbers from 0 to MaxUses, and no others.
func TestPushNumbers(t *testing.T) {
	for _, a := range []api.Agenda{fresh(1), fresh(200), five()} {
		for _, n := range []int{1, 2, limit - 1, limit} {
			r, h := push(t, a, whole(50), n)
			if x, e := agenda.Find(r, h); x.Number != n || x.At != whole(50) || e != api.OK {
				t.Error(a, n, x, e)
			}
		}
		for _, n := range []int{-1, -2, -limit, least, limit + 1, limit + 2, 1 << 32, most} {
			wantNoPush(t, a, whole(50), n, api.ErrArg)
		}
	}
	if r, _ := push(t, fresh(1), whole(50), 0); r.Heap[0].Number != 0 {
		t.Error(r)
	}
}

// P7.2: a number that is there, at each place, is ErrTwice, whatever the time is; after its event was removed it is not.
func TestPushTwice(t *testing.T) {
	for _, a := range goodAgendas() {
		for i, x := range a.Heap {
			if i >= 5 && i < len(a.Heap)-5 {
				continue
			}
			wantNoPush(t, a, x.At, x.Number, api.ErrTwice)
			wantNoPush(t, a, whole(77), x.Number, api.ErrTwice)
			if x.Handle.Use < limit {
				r, _ := remove(t, a, x.Handle)
				if _, h := push(t, r, x.At, x.Number); h != handle(x.Handle.Index, x.Handle.Use+1) {
					t.Fatal(a, x, h)
				}
			}
		}
	}
}

// P7.2: an agenda is full if all its slots are used, or the one that comes next was used MaxUses times.
func TestPushFull(t *testing.T) {
	for _, a := range []api.Agenda{
		rising(1), rising(2), rising(199), rising(200), level(200), three(),
		of(table(numbers(limit), ".", 0)), of(table(numbers(0, limit), "..", 0, 1)), of(table(numbers(2, limit, 0), "x..", 2, 1), event(whole(5), 3, 0, 2)),
		of(table(numbers(limit), "x"), event(whole(5), 3, 0, limit)),
	} {
		wantNoPush(t, a, whole(7), 900, api.ErrFull)
		wantNoPush(t, a, whole(-7), 900, api.ErrFull)
	}
	// Not where another one was, and it may be used for the last time.
	a := of(table(numbers(0, limit), "..", 1, 0))
	wantPush(t, a, whole(7), 900, of(table(numbers(1, limit), "x.", 1), event(whole(7), 900, 0, 1)), handle(0, 1), api.OK)
	a = of(table(numbers(limit-1), ".", 0))
	wantPush(t, a, whole(7), 900, of(table(numbers(limit), "x"), event(whole(7), 900, 0, limit)), handle(0, limit), api.OK)
}

// P7.2: a time that is no valid fraction comes first, then a number that is out of range, then one that is there, and then no room.
func TestPushErrors(t *testing.T) {
	for _, a := range []api.Agenda{rising(1), rising(200), three(), five(), of(table(numbers(limit, 1), ".x", 0), event(whole(1), 4, 1, 1))} {
		for _, bad := range badTimes() {
			for _, n := range []int{-1, limit + 1, a.Heap[0].Number, 900, least, most} {
				wantNoPush(t, a, bad, n, api.ErrBad)
			}
		}
		wantNoPush(t, a, whole(1), -1, api.ErrArg)
		wantNoPush(t, a, whole(1), limit+1, api.ErrArg)
		wantNoPush(t, a, whole(1), a.Heap[0].Number, api.ErrTwice)
		wantNoPush(t, a, whole(1), a.Heap[len(a.Heap)-1].Number, api.ErrTwice)
	}
}

// P7.2: Push, against the definition.
func TestPushByDefinition(t *testing.T) {
	m := mixer(72)
	seen := map[api.Errno]int{}
	for i := range 12000 {
		a := m.agenda(1 + i%17)
		at, number := m.time(), []int{m.below(limit + 1), m.below(20), m.below(20), limit, -1}[m.below(5)]
		if m.below(3) == 0 {
			at = badTimes()[m.below(len(badTimes()))]
		}
		if len(a.Heap) > 0 && m.below(4) == 0 {
			number = a.Heap[m.below(len(a.Heap))].Number
		}
		want, h, e := afterPushing(a, at, number)
		wantPush(t, a, at, number, want, h, e)
		seen[e]++
	}
	for _, e := range []api.Errno{api.OK, api.ErrBad, api.ErrArg, api.ErrTwice, api.ErrFull} {
		enough(t, seen[e])
	}
}
