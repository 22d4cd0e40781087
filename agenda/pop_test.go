package agenda_test

import (
	"slices"
	"testing"

	"peloton/agenda"
	"peloton/api"
)

func wantTop(t *testing.T, a api.Agenda, want api.Event, e api.Errno) {
	t.Helper()
	if x, f := agenda.Top(a); x != want || f != e {
		t.Fatal("top", a, x, f, want, e)
	}
}

func wantPop(t *testing.T, a, want api.Agenda, x api.Event, e api.Errno) {
	t.Helper()
	if r, y, f := agenda.Pop(a); !same(r, want) || y != x || f != e {
		t.Fatal("pop", a, r, y, f, want, x, e)
	}
}

func wantFind(t *testing.T, a api.Agenda, h api.Handle, want api.Event, e api.Errno) {
	t.Helper()
	if x, f := agenda.Find(a, h); x != want || f != e {
		t.Fatal("find", a, h, x, f, want, e)
	}
}

func wantRemove(t *testing.T, a api.Agenda, h api.Handle, want api.Agenda, x api.Event, e api.Errno) {
	t.Helper()
	if r, y, f := agenda.Remove(a, h); !same(r, want) || y != x || f != e {
		t.Fatal("remove", a, h, r, y, f, want, x, e)
	}
}

func wantRekey(t *testing.T, a api.Agenda, h api.Handle, at api.Ratio, want api.Agenda, e api.Errno) {
	t.Helper()
	if r, f := agenda.Rekey(a, h, at); !same(r, want) || f != e {
		t.Fatal("rekey", a, h, at, r, f, want, e)
	}
}

// P7.3: Top and Pop of agendas without events, and with one.
func TestTopAndPopOfFew(t *testing.T) {
	for _, a := range []api.Agenda{fresh(1), fresh(2), fresh(200), of(table(numbers(limit), ".", 0)), of(table(numbers(5, 0), "..", 0, 1))} {
		wantTop(t, a, api.Event{}, api.ErrEmpty)
		wantPop(t, a, api.Agenda{}, api.Event{}, api.ErrEmpty)
	}
	x := event(frac(7, 2), 0, 1, 3)
	a := of(table(numbers(6, 3, 0), ".x.", 2, 0), x)
	wantTop(t, a, x, api.OK)
	wantPop(t, a, of(table(numbers(6, 3, 0), "...", 2, 0, 1)), x, api.OK)
	x = event(whole(-most), limit, 0, limit)
	a = of(table(numbers(limit), "x"), x)
	wantTop(t, a, x, api.OK)
	wantPop(t, a, of(table(numbers(limit), ".", 0)), x, api.OK)
}

// branched is an agenda in whose left branch all times are greater than those of the right one: 0; 50, 10; 60, 70, 20, 30; 80, 90, 75, 100, 21, 22, 31.
func branched() api.Agenda {
	list := []int64{0, 50, 10, 60, 70, 20, 30, 80, 90, 75, 100, 21, 22, 31}
	return full(len(list), func(i int) (api.Ratio, int) { return whole(list[i]), 100 - i })
}

// heapOf are the events of an agenda in the order of some indexes.
func heapOf(a api.Agenda, indexes ...int) []api.Event {
	var heap []api.Event
	for _, i := range indexes {
		heap = append(heap, a.Heap[i])
	}
	return heap
}

// givenBack is a table of n slots, all of which but one are used for the first time.
func givenBack(n, but int) api.Slots {
	s := rising(n).Slots
	s.Used[but] = false
	s.Free = numbers(but)
	return s
}

// P7.3: the last event takes the place of the first one, and moves down along the lesser children.
func TestPop(t *testing.T) {
	a := branched()
	// 31 comes to the top, and goes down behind 10, 20, and 21.
	want := of(givenBack(14, 0), heapOf(a, 2, 1, 5, 3, 4, 11, 6, 7, 8, 9, 10, 13, 12)...)
	wantTop(t, a, a.Heap[0], api.OK)
	wantPop(t, a, want, a.Heap[0], api.OK)
	// Of children with the same time the one with the lesser number is the lesser one, left or right.
	for _, c := range []struct{ left, right int }{{4, 5}, {5, 4}, {0, limit}, {limit, 0}} {
		a := of(table(numbers(1, 1, 1, 1), "xxxx"), event(whole(1), 9, 0, 1), event(whole(2), c.left, 1, 1), event(whole(2), c.right, 2, 1), event(whole(3), 8, 3, 1))
		want := of(givenBack(4, 0), heapOf(a, 1, 3, 2)...)
		if c.right < c.left {
			want = of(givenBack(4, 0), heapOf(a, 2, 1, 3)...)
		}
		wantPop(t, a, want, a.Heap[0], api.OK)
	}
	// With two events the other one comes first; with three the lesser one of the others does.
	a = of(table(numbers(1, 1), "xx"), event(whole(1), 9, 0, 1), event(whole(2), 4, 1, 1))
	wantPop(t, a, of(givenBack(2, 0), a.Heap[1]), a.Heap[0], api.OK)
	a = of(table(numbers(1, 1, 1), "xxx"), event(whole(1), 9, 0, 1), event(whole(2), 4, 1, 1), event(whole(3), 5, 2, 1))
	wantPop(t, a, of(givenBack(3, 0), a.Heap[1], a.Heap[2]), a.Heap[0], api.OK)
	a = of(table(numbers(1, 1, 1), "xxx"), event(whole(1), 9, 0, 1), event(whole(3), 4, 1, 1), event(whole(2), 5, 2, 1))
	wantPop(t, a, of(givenBack(3, 0), a.Heap[2], a.Heap[1]), a.Heap[0], api.OK)
}

// P7.3: Remove of the last event of Heap, of the first one, and of those in between whose place goes up, down, or to neither side.
func TestRemove(t *testing.T) {
	a := branched()
	for _, c := range []struct {
		index int
		heap  []int
	}{
		// The last one: nothing else changes.
		{13, numbers(0, 1, 2, 3, 4, 5, 6, 7, 8, 9, 10, 11, 12)},
		// The first one: 31 goes down to the end of the right branch.
		{0, numbers(2, 1, 5, 3, 4, 11, 6, 7, 8, 9, 10, 13, 12)},
		// 31 goes up, past 60 and 50, from a place without children, and from one with some.
		{7, numbers(0, 13, 2, 1, 4, 5, 6, 3, 8, 9, 10, 11, 12)},
		{8, numbers(0, 13, 2, 1, 4, 5, 6, 7, 3, 9, 10, 11, 12)},
		{10, numbers(0, 13, 2, 3, 1, 5, 6, 7, 8, 9, 4, 11, 12)},
		{3, numbers(0, 13, 2, 1, 4, 5, 6, 7, 8, 9, 10, 11, 12)},
		{4, numbers(0, 13, 2, 3, 1, 5, 6, 7, 8, 9, 10, 11, 12)},
		// It goes down in the right branch, by two, and by one.
		{2, numbers(0, 1, 5, 3, 4, 11, 6, 7, 8, 9, 10, 13, 12)},
		{5, numbers(0, 1, 2, 3, 4, 11, 6, 7, 8, 9, 10, 13, 12)},
		// It stays where it is, with children that are not less, and without any.
		{1, numbers(0, 13, 2, 3, 4, 5, 6, 7, 8, 9, 10, 11, 12)},
		{6, numbers(0, 1, 2, 3, 4, 5, 13, 7, 8, 9, 10, 11, 12)},
		{11, numbers(0, 1, 2, 3, 4, 5, 6, 7, 8, 9, 10, 13, 12)},
		{12, numbers(0, 1, 2, 3, 4, 5, 6, 7, 8, 9, 10, 11, 13)},
	} {
		wantRemove(t, a, handle(c.index, 1), of(givenBack(14, c.index), heapOf(a, c.heap...)...), a.Heap[c.index], api.OK)
	}
	// The only one.
	x := event(whole(3), 0, 1, 2)
	wantRemove(t, of(table(numbers(0, 2), ".x", 0), x), handle(1, 2), of(table(numbers(0, 2), "..", 0, 1)), x, api.OK)
}

// P7.3: a number decides up and down as well, where times are the same.
func TestRemoveByNumbers(t *testing.T) {
	// 0; 5, 1; 6, 7, 2, and then 3 or 9.
	list := numbers(0, 5, 1, 6, 7, 2, 3)
	for _, last := range numbers(3, 9) {
		a := full(7, func(i int) (api.Ratio, int) { return whole(1), list[i] })
		a.Heap[6].Number = last
		up, stays := of(givenBack(7, 3), heapOf(a, 0, 6, 2, 1, 4, 5)...), of(givenBack(7, 3), heapOf(a, 0, 1, 2, 6, 4, 5)...)
		if last == 3 {
			wantRemove(t, a, handle(3, 1), up, a.Heap[3], api.OK)
		} else {
			wantRemove(t, a, handle(3, 1), stays, a.Heap[3], api.OK)
		}
		wantRemove(t, a, handle(2, 1), of(givenBack(7, 2), heapOf(a, 0, 1, 5, 3, 4, 6)...), a.Heap[2], api.OK)
	}
}

// P7.3: Remove and Rekey of handles that are not live: those that were, those of other slots, and those of indexes out of range.
func TestHandlesThatAreNotLive(t *testing.T) {
	seen := 0
	for _, a := range goodAgendas() {
		for _, h := range otherHandles(a) {
			wantRemove(t, a, h, api.Agenda{}, api.Event{}, api.ErrNone)
			wantRekey(t, a, h, whole(1), api.Agenda{}, api.ErrNone)
			wantRekey(t, a, h, frac(2, 4), api.Agenda{}, api.ErrBad)
			seen++
		}
	}
	enough(t, seen)
	// One that was, in the same slot as one that is.
	a, h := push(t, fresh(1), whole(1), 4)
	a, _ = pop(t, a)
	wantRemove(t, a, h, api.Agenda{}, api.Event{}, api.ErrNone)
	a, g := push(t, a, whole(1), 4)
	wantRemove(t, a, h, api.Agenda{}, api.Event{}, api.ErrNone)
	wantRekey(t, a, h, whole(7), api.Agenda{}, api.ErrNone)
	wantFind(t, a, h, api.Event{}, api.ErrNone)
	wantFind(t, a, g, event(whole(1), 4, 0, 2), api.OK)
}

// P7.3: Top, Pop and Remove, against the definition.
func TestPopAndRemoveByDefinition(t *testing.T) {
	m := mixer(73)
	empty, removed := 0, 0
	for i := range 10000 {
		a := m.agenda(1 + i%23)
		x, e := first(a)
		wantTop(t, a, x, e)
		want, x, e := afterPopping(a)
		wantPop(t, a, want, x, e)
		if e == api.ErrEmpty {
			empty++
		}
		for _, h := range liveHandles(a) {
			want, x, e := afterRemoving(a, h)
			wantRemove(t, a, h, want, x, e)
			removed++
		}
	}
	enough(t, empty)
	enough(t, removed)
}

// P7.3: Rekey to a lesser time, the same one, and a greater one.
func TestRekey(t *testing.T) {
	a := branched()
	for _, c := range []struct {
		index int
		at    api.Ratio
		heap  []int
	}{
		// The same time, at each kind of place.
		{0, whole(0), nil}, {4, whole(70), nil}, {13, whole(31), nil},
		// Another one that changes nothing else.
		{0, whole(-7), nil}, {0, whole(9), nil}, {4, whole(51), nil}, {4, frac(149, 2), nil}, {13, frac(61, 2), nil}, {13, whole(most), nil}, {1, whole(1), nil}, {1, whole(59), nil},
		// Up: by one, by two, and by three.
		{4, whole(49), numbers(0, 4, 2, 3, 1, 5, 6, 7, 8, 9, 10, 11, 12, 13)},
		{4, whole(-1), numbers(4, 0, 2, 3, 1, 5, 6, 7, 8, 9, 10, 11, 12, 13)},
		{10, whole(69), numbers(0, 1, 2, 3, 10, 5, 6, 7, 8, 9, 4, 11, 12, 13)},
		{10, whole(49), numbers(0, 10, 2, 3, 1, 5, 6, 7, 8, 9, 4, 11, 12, 13)},
		{10, whole(-49), numbers(10, 0, 2, 3, 1, 5, 6, 7, 8, 9, 4, 11, 12, 13)},
		{13, whole(-most), numbers(13, 1, 0, 3, 4, 5, 2, 7, 8, 9, 10, 11, 12, 6)},
		// Down: by one, by two, and by three.
		{0, whole(11), numbers(2, 1, 0, 3, 4, 5, 6, 7, 8, 9, 10, 11, 12, 13)},
		{0, frac(41, 2), numbers(2, 1, 5, 3, 4, 0, 6, 7, 8, 9, 10, 11, 12, 13)},
		{0, whole(most), numbers(2, 1, 5, 3, 4, 11, 6, 7, 8, 9, 10, 0, 12, 13)},
		{1, whole(65), numbers(0, 3, 2, 1, 4, 5, 6, 7, 8, 9, 10, 11, 12, 13)},
		{1, whole(85), numbers(0, 3, 2, 7, 4, 5, 6, 1, 8, 9, 10, 11, 12, 13)},
		{6, whole(32), numbers(0, 1, 2, 3, 4, 5, 13, 7, 8, 9, 10, 11, 12, 6)},
	} {
		r := clone(a)
		r.Heap[c.index].At = c.at
		if c.heap == nil {
			c.heap = numbers(0, 1, 2, 3, 4, 5, 6, 7, 8, 9, 10, 11, 12, 13)
		}
		wantRekey(t, a, handle(c.index, 1), c.at, of(a.Slots, heapOf(r, c.heap...)...), api.OK)
	}
	x := event(whole(3), 7, 1, 2)
	a = of(table(numbers(0, 2), ".x", 0), x)
	wantRekey(t, a, handle(1, 2), whole(5), of(a.Slots, event(whole(5), 7, 1, 2)), api.OK)
}

// P7.3: rekeyed to the time of its parent, or of a child, an event goes up or down just if its number says so.
func TestRekeyToTheSameTime(t *testing.T) {
	for _, number := range []int{0, 9, 11, 19, 21, limit} {
		// 1 with the number 10; 2 with the number given; 3 with the number 20.
		heap := row(event(whole(1), 10, 0, 1), event(whole(2), number, 1, 1), event(whole(9), 55, 2, 1), event(whole(3), 20, 3, 1))
		a := of(table(numbers(1, 1, 1, 1), "xxxx"), heap...)
		up, down, stays := numbers(1, 0, 2, 3), numbers(0, 3, 2, 1), numbers(0, 1, 2, 3)
		for _, c := range []struct {
			at    api.Ratio
			moves bool
			heap  []int
		}{{whole(1), number < 10, up}, {whole(3), number > 20, down}} {
			r := clone(a)
			r.Heap[1].At = c.at
			if !c.moves {
				c.heap = stays
			}
			wantRekey(t, a, handle(1, 1), c.at, of(a.Slots, heapOf(r, c.heap...)...), api.OK)
		}
	}
}

// P7.3: a time that is no valid fraction comes before a handle that is not live.
func TestRekeyErrors(t *testing.T) {
	for _, a := range []api.Agenda{five(), three(), fresh(2), rising(200)} {
		for _, bad := range badTimes() {
			for _, h := range slices.Concat(liveHandles(a), otherHandles(a)) {
				wantRekey(t, a, h, bad, api.Agenda{}, api.ErrBad)
			}
		}
	}
}

// P7.3: Rekey, against the definition.
func TestRekeyByDefinition(t *testing.T) {
	m := mixer(74)
	seen := map[api.Errno]int{}
	for i := range 3000 {
		a := m.agenda(1 + i%23)
		for _, h := range liveHandles(a) {
			at := m.time()
			if m.below(8) == 0 {
				at = badTimes()[m.below(len(badTimes()))]
			}
			want, e := afterRekeying(a, h, at)
			wantRekey(t, a, h, at, want, e)
			seen[e]++
		}
	}
	enough(t, seen[api.OK])
	enough(t, seen[api.ErrBad])
}

// P7.3: all events of the largest agendas are popped, removed and rekeyed.
func TestLargeAgendas(t *testing.T) {
	m := mixer(75)
	for _, a := range []api.Agenda{rising(199), rising(200), level(200), m.agenda(200), m.agenda(199)} {
		for i := range 60 {
			if len(a.Heap) == 0 {
				break
			}
			h := a.Heap[m.below(len(a.Heap))].Handle
			at := m.time()
			want, e := afterRekeying(a, h, at)
			wantRekey(t, a, h, at, want, e)
			a = want
			x := event(whole(0), 0, 0, 0)
			if i%2 == 0 {
				want, x, e = afterPopping(a)
				wantPop(t, a, want, x, e)
			} else {
				want, x, e = afterRemoving(a, h)
				wantRemove(t, a, h, want, x, e)
			}
			a = want
		}
	}
}
