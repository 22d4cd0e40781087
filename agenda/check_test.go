package agenda_test

import (
	"testing"

	"peloton/agenda"
	"peloton/api"
)

// P7.1: New of each number of slots that an agenda may have, at both ends of it, and beyond them.
func TestNew(t *testing.T) {
	for n := 1; n <= 200; n++ {
		if a, e := agenda.New(n); !same(a, fresh(n)) || e != api.OK {
			t.Error(n, a, e)
		}
	}
	want := api.Agenda{Slots: table(numbers(0, 0, 0), "...", 2, 1, 0), Where: numbers(-1, -1, -1)}
	if a, e := agenda.New(3); !same(a, want) || e != api.OK {
		t.Error(a, e)
	}
	for _, n := range []int{0, -1, -2, -200, 201, 202, 400, 1<<32 + 1, -1 << 32, most, least} {
		if a, e := agenda.New(n); !same(a, api.Agenda{}) || e != api.ErrArg {
			t.Error(n, a, e)
		}
	}
}

// P7.1: a new agenda is valid, and has no event.
func TestNewIsEmpty(t *testing.T) {
	for _, n := range []int{1, 2, 3, 199, 200} {
		a, e := agenda.New(n)
		if f := agenda.Check(a); e != api.OK || f != api.OK {
			t.Error(n, e, f)
		}
		wantTop(t, a, api.Event{}, api.ErrEmpty)
		for i := range n {
			for use := range 3 {
				wantFind(t, a, handle(i, use), api.Event{}, api.ErrNone)
			}
		}
	}
}

// P7.1: Check of agendas that are valid.
func TestCheckValid(t *testing.T) {
	for _, a := range goodAgendas() {
		if e := agenda.Check(a); e != api.OK || !isValid(a) {
			t.Error(a, e)
		}
	}
}

// P7.1: Check of agendas that are not valid, in each way.
func TestCheckBad(t *testing.T) {
	for reason, list := range badAgendas() {
		for _, a := range list {
			if e := agenda.Check(a); e != api.ErrBad || isValid(a) {
				t.Error(reason, a, e)
			}
		}
	}
}

// P7.1: events of the same time are in order by their numbers, and others by their times alone, whatever is left and right.
func TestCheckOrder(t *testing.T) {
	all := append(times(), whole(3), frac(10, 3), frac(11, 4))
	seen := map[api.Errno]int{}
	for _, at := range all {
		for _, to := range all {
			for _, number := range []int{0, 1, 2, limit} {
				for _, child := range []int{1, 2} {
					heap := row(event(at, 1, 0, 1), event(whole(most), 8, 1, 1), event(whole(most), 9, 2, 1))
					heap[child] = event(to, number, child, 1)
					a := of(table(numbers(1, 1, 1), "xxx"), heap...)
					want := api.OK
					if isLess(heap[child], heap[0]) || number == 1 {
						want = api.ErrBad
					}
					if e := agenda.Check(a); e != want {
						t.Fatal(a, e, want)
					}
					seen[want]++
				}
			}
		}
	}
	enough(t, seen[api.OK])
	enough(t, seen[api.ErrBad])
}

// P7.1: an event may be less than any other one but its parent, which is the one at (i - 1) / 2, rounded down.
func TestCheckParents(t *testing.T) {
	for _, n := range []int{2, 3, 4, 5, 6, 7, 8, 20, 200} {
		for k := 1; k < n; k++ {
			parent := -1
			for i := range n {
				if k == 2*i+1 || k == 2*i+2 {
					parent = i
				}
			}
			for _, i := range []int{0, parent - 1, parent, parent + 1, (k + parent) / 2, k} {
				// All times are twice the index, but that of k, which is just less than that of i.
				a := full(n, func(j int) (api.Ratio, int) { return whole(int64(2 * j)), j })
				a.Heap[k].At = whole(int64(2*i - 1))
				want := api.OK
				if i <= parent {
					want = api.ErrBad
				}
				if e := agenda.Check(a); e != want {
					t.Fatal(n, k, i, e, want)
				}
			}
		}
	}
}

// spoiled is a valid agenda in which a few things are others, so that it is valid no more, mostly.
func (m *mixer) spoiled(n int) api.Agenda {
	a := m.agenda(n)
	for range 1 + m.below(2) {
		if m.below(3) == 0 || len(a.Heap) == 0 {
			m.spoilSlot(&a)
		} else {
			m.spoilEvent(&a)
		}
	}
	return a
}

func (m *mixer) spoilSlot(a *api.Agenda) {
	i := m.below(len(a.Slots.Used))
	switch m.below(6) {
	case 0:
		a.Slots.Used[i] = !a.Slots.Used[i]
	case 1:
		a.Slots.Uses[i] = []int{0, 1, a.Slots.Uses[i] + 1, limit + 1}[m.below(4)]
	case 2:
		a.Where = append(a.Where, -1)
	case 3:
		a.Where = a.Where[:max(len(a.Where)-1, 0)]
	case 4:
		if i < len(a.Where) {
			a.Where[i] = m.below(len(a.Heap)+3) - 2
		}
	case 5:
		a.Slots.Free = append(a.Slots.Free, i)
	}
}

func (m *mixer) spoilEvent(a *api.Agenda) {
	i, k := m.below(len(a.Heap)), m.below(len(a.Heap))
	switch m.below(7) {
	case 0:
		a.Heap[i].At = append(badTimes(), times()...)[m.below(len(badTimes())+len(times()))]
	case 1:
		a.Heap[i].Number = []int{-1, 0, limit, limit + 1, a.Heap[k].Number}[m.below(5)]
	case 2:
		a.Heap[i].Handle.Use += m.below(3) - 1
	case 3:
		a.Heap[i].Handle.Index += m.below(3) - 1
	case 4:
		a.Heap[i], a.Heap[k] = a.Heap[k], a.Heap[i]
	case 5:
		a.Heap = a.Heap[:len(a.Heap)-1]
	case 6:
		a.Heap = append(a.Heap, a.Heap[i])
		if m.below(2) == 0 {
			a.Heap[len(a.Heap)-1].Number++
		}
	}
}

// P7.1: Check, against the definition.
func TestCheckByDefinition(t *testing.T) {
	m := mixer(71)
	good, bad := 0, 0
	for range 30000 {
		a := m.spoiled(1 + m.below(6))
		want := api.ErrBad
		if isValid(a) {
			want = api.OK
			good++
		} else {
			bad++
		}
		if e := agenda.Check(a); e != want {
			t.Fatal(a, e, want)
		}
	}
	enough(t, good)
	enough(t, bad)
}

// P7.1: each one of many small agendas, of two slots with all pairs of handles, numbers, times, and what Where has, is valid or not as the definition says.
func TestCheckSmallAgendas(t *testing.T) {
	tables := []api.Slots{
		table(numbers(1, 1), "xx"), table(numbers(1, 2), "xx"), table(numbers(1, 1), "x.", 1), table(numbers(0, 1), ".x", 0), table(numbers(1, 0), "..", 1, 0), table(numbers(1, 0), "xx"), table(numbers(1), "x"),
	}
	var events []api.Event
	for i := range 3 {
		for use := range 3 {
			events = append(events, event(whole(1), 0, i, use), event(whole(1), 1, i, use), event(whole(2), 0, i, use))
		}
	}
	heaps := [][]api.Event{nil}
	for _, x := range events {
		heaps = append(heaps, row(x))
		for _, y := range events {
			heaps = append(heaps, row(x, y))
		}
	}
	good := 0
	for _, s := range tables {
		for _, heap := range heaps {
			for i := -1; i <= 2; i++ {
				for k := -1; k <= 2; k++ {
					a := api.Agenda{Slots: s, Heap: heap, Where: numbers(i, k)}
					want := api.ErrBad
					if isValid(a) {
						want = api.OK
						good++
					}
					if e := agenda.Check(a); e != want {
						t.Fatal(a, e, want)
					}
				}
			}
		}
	}
	// For two slots that are used there are 2 pairs of different numbers, either one for either slot; for one that is used there are 3 events; and for none there is no event.
	if good != 2*2*2+2*3+1 {
		t.Error(good)
	}
}

// P7.1: Find of handles that are live, that were, and that are out of range.
func TestFind(t *testing.T) {
	for _, x := range five().Heap {
		wantFind(t, five(), x.Handle, x, api.OK)
	}
	for _, h := range []api.Handle{
		// Of a slot that is free, with the number of its uses.
		handle(1, 1), handle(1, 0), handle(1, 2),
		// Of other numbers of uses: earlier ones, and those that are to come.
		handle(0, 2), handle(0, 4), handle(0, 0), handle(0, -3), handle(4, 4), handle(4, 6), handle(4, 5+1<<32), handle(3, 0), handle(3, 2),
		// Of indexes out of range.
		handle(5, 5), handle(-1, 1), handle(-1, 5), handle(200, 1), handle(1<<32, 3), handle(most, most), handle(least, least),
	} {
		wantFind(t, five(), h, api.Event{}, api.ErrNone)
	}
	wantFind(t, fresh(1), handle(0, 0), api.Event{}, api.ErrNone)
	wantFind(t, fresh(1), handle(0, 1), api.Event{}, api.ErrNone)
	wantFind(t, rising(200), handle(199, 1), event(whole(199), 204, 199, 1), api.OK)
	wantFind(t, rising(200), handle(200, 1), api.Event{}, api.ErrNone)
}

// P7.1: Find, against the definition.
func TestFindByDefinition(t *testing.T) {
	there, none := 0, 0
	for _, a := range goodAgendas() {
		for _, h := range liveHandles(a) {
			x, e := found(a, h)
			wantFind(t, a, h, x, e)
			there++
		}
		for _, h := range otherHandles(a) {
			x, e := found(a, h)
			wantFind(t, a, h, x, e)
			none++
			if e != api.ErrNone {
				t.Error(a, h)
			}
		}
	}
	enough(t, there)
	enough(t, none)
}
