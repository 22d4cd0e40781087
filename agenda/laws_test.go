package agenda_test

import (
	"slices"
	"testing"

	"peloton/agenda"
	"peloton/api"
)

// book keeps all that was said of an agenda: the events that are there, in order, and the handles of those that were.
type book struct {
	a    api.Agenda
	list []api.Event
	old  []api.Handle
}

// open is the book of a valid agenda with what is in it.
func open(a api.Agenda) *book {
	b := &book{a: a, list: slices.Clone(a.Heap)}
	slices.SortFunc(b.list, order)
	return b
}

func (b *book) add(x api.Event) {
	b.list = append(b.list, x)
	slices.SortFunc(b.list, order)
}

// drop crosses out the event with an index of the list.
func (b *book) drop(i int) {
	b.old = append(b.old, b.list[i].Handle)
	b.list = slices.Delete(b.list, i, i+1)
}

// pushing is the book after an event was pushed, if it could be.
func (b *book) pushing(t *testing.T, at api.Ratio, number int) {
	t.Helper()
	a, h, e := agenda.Push(b.a, at, number)
	if e == api.ErrFull || e == api.ErrTwice {
		return
	}
	if e != api.OK {
		t.Fatal(b, at, number, e)
	}
	x := api.Event{At: at, Number: number, Handle: h}
	if slices.Contains(b.old, h) || slices.ContainsFunc(b.list, func(y api.Event) bool { return y.Handle.Index == h.Index }) {
		t.Fatal("a handle comes again", b, x)
	}
	b.a = a
	b.add(x)
}

func (b *book) popping(t *testing.T) {
	t.Helper()
	a, x := pop(t, b.a)
	if x != b.list[0] {
		t.Fatal("not the first one", b, x)
	}
	b.a = a
	b.drop(0)
}

func (b *book) removing(t *testing.T, i int) {
	t.Helper()
	a, x := remove(t, b.a, b.list[i].Handle)
	if x != b.list[i] {
		t.Fatal("not this one", b, i, x)
	}
	b.a = a
	b.drop(i)
}

func (b *book) rekeying(t *testing.T, i int, at api.Ratio) {
	t.Helper()
	x := b.list[i]
	b.a = rekey(t, b.a, x.Handle, at)
	b.list = slices.Delete(b.list, i, i+1)
	x.At = at
	b.add(x)
}

// check fails unless the agenda is valid, the first event is the least one, all events are found under their handles, and none under those that were.
func (b *book) check(t *testing.T) {
	t.Helper()
	if e := agenda.Check(b.a); e != api.OK || len(b.a.Heap) != len(b.list) || !isValid(b.a) {
		t.Fatal(b, e)
	}
	if len(b.list) > 0 {
		wantTop(t, b.a, b.list[0], api.OK)
	} else {
		wantTop(t, b.a, api.Event{}, api.ErrEmpty)
	}
	for _, x := range b.list {
		wantFind(t, b.a, x.Handle, x, api.OK)
	}
	for _, h := range b.old {
		wantFind(t, b.a, h, api.Event{}, api.ErrNone)
		wantRemove(t, b.a, h, api.Agenda{}, api.Event{}, api.ErrNone)
		wantRekey(t, b.a, h, whole(1), api.Agenda{}, api.ErrNone)
	}
}

// P7.4: an event is found under its handle, wherever it is, with its time and its number, until it is popped or removed, and then under none; what is pushed, popped, removed and rekeyed changes no other event, and the first one is less than all others.
func TestBooks(t *testing.T) {
	m := mixer(76)
	seen := 0
	for i := range 150 {
		b := open(m.agenda(1 + i%13))
		for range 30 {
			what := m.below(10)
			switch {
			// Phases in which more is pushed, and others in which more goes.
			case what < 2+i%5 || len(b.list) == 0:
				b.pushing(t, m.time(), []int{m.below(limit + 1), m.below(15), m.below(15)}[m.below(3)])
			case what < 8:
				b.rekeying(t, m.below(len(b.list)), m.time())
			case what == 8:
				b.popping(t)
			default:
				b.removing(t, m.below(len(b.list)))
			}
			b.check(t)
			seen += len(b.list)
		}
	}
	enough(t, seen)
}

// P7.4: popped one after the other, the events come in order, whatever was pushed, removed and rekeyed before; then all slots are free.
func TestPoppedInOrder(t *testing.T) {
	m := mixer(77)
	seen := 0
	for i := range 300 {
		a := m.agenda(1 + i%40)
		b := open(a)
		for range m.below(6) {
			b.pushing(t, m.time(), m.below(limit+1))
			if len(b.list) > 0 {
				b.rekeying(t, m.below(len(b.list)), m.time())
			}
		}
		var last api.Event
		n := len(b.list)
		for k := range n {
			r, x := pop(t, b.a)
			if k > 0 && !isLess(last, x) || x != b.list[k] {
				t.Fatal(b, k, last, x)
			}
			b.a, last = r, x
			seen++
		}
		if len(b.a.Heap) != 0 || len(b.a.Slots.Free) != len(b.a.Where) {
			t.Fatal(b)
		}
		wantPop(t, b.a, api.Agenda{}, api.Event{}, api.ErrEmpty)
	}
	enough(t, seen)
}

// P7.4: in whatever order events are pushed into an agenda, they come in the same order.
func TestPushedInAnyOrder(t *testing.T) {
	list := row(event(whole(1), 3, 0, 0), event(whole(1), 4, 0, 0), event(frac(3, 2), 0, 0, 0), event(whole(2), 1, 0, 0), event(whole(2), 2, 0, 0))
	seen := 0
	var each func(before, rest []api.Event)
	each = func(before, rest []api.Event) {
		if len(rest) > 0 {
			for i, x := range rest {
				each(slices.Concat(before, row(x)), slices.Concat(rest[:i], rest[i+1:]))
			}
			return
		}
		a := fresh(5)
		for _, x := range before {
			a, _ = push(t, a, x.At, x.Number)
		}
		for _, want := range list {
			r, x := pop(t, a)
			if a = r; x.At != want.At || x.Number != want.Number {
				t.Fatal(before, x, want)
			}
		}
		seen++
	}
	each(nil, list)
	if seen != 120 {
		t.Error(seen)
	}
}

// P7.4: an agenda of the most events, pushed in falling, rising and mixed order, is popped in order.
func TestMostEvents(t *testing.T) {
	for _, step := range []int{1, 199, 77, 3} {
		a := fresh(200)
		for i := range 200 {
			n := (i*step + 5) % 200
			a, _ = push(t, a, frac(int64(2*(n/10)+1), 2), n)
		}
		wantNoPush(t, a, whole(0), 200, api.ErrFull)
		for n := range 200 {
			r, x := pop(t, a)
			if a = r; x.Number != n || x.At != frac(int64(2*(n/10)+1), 2) {
				t.Fatal(step, n, x)
			}
		}
	}
}

// P7.4: what is pushed, popped, removed or rekeyed changes the time and the number of no other event.
func TestOtherEventsStay(t *testing.T) {
	m := mixer(78)
	seen := 0
	stays := func(a, r api.Agenda, but api.Handle) {
		t.Helper()
		for _, x := range a.Heap {
			if x.Handle != but {
				wantFind(t, r, x.Handle, x, api.OK)
				seen++
			}
		}
	}
	for range 150 {
		a := m.agenda(2 + m.below(9))
		if r, h, e := agenda.Push(a, m.time(), m.below(limit+1)); e == api.OK {
			stays(a, r, h)
		}
		if r, x, e := agenda.Pop(a); e == api.OK {
			stays(a, r, x.Handle)
		}
		for _, h := range liveHandles(a) {
			r, _ := remove(t, a, h)
			stays(a, r, h)
			stays(a, rekey(t, a, h, m.time()), h)
		}
	}
	enough(t, seen)
}

// P7.4: rekeyed there and back an event has its time again, and is popped where it was.
func TestRekeyedThereAndBack(t *testing.T) {
	m := mixer(79)
	seen := 0
	for range 150 {
		a := m.agenda(1 + m.below(12))
		for _, x := range a.Heap {
			b := open(rekey(t, rekey(t, a, x.Handle, m.time()), x.Handle, x.At))
			if !slices.Equal(b.list, open(a).list) {
				t.Fatal(a, x, b)
			}
			seen++
		}
	}
	if seen < 300 {
		t.Error(seen)
	}
}

// The examples of the chapter.
func TestExamples(t *testing.T) {
	a, e := agenda.New(4)
	if e != api.OK {
		t.Fatal(e)
	}
	var first api.Handle
	for number, at := range []int64{5, 3, 4, 3} {
		r, h := push(t, a, whole(at), number)
		if number == 0 {
			first = h
		}
		a = r
	}
	popped := func(a api.Agenda) []int {
		var list []int
		for range 4 {
			r, x := pop(t, a)
			a, list = r, append(list, x.Number)
		}
		wantPop(t, a, api.Agenda{}, api.Event{}, api.ErrEmpty)
		return list
	}
	if list := popped(a); !slices.Equal(list, numbers(1, 3, 2, 0)) {
		t.Error(list)
	}
	if list := popped(rekey(t, a, first, frac(7, 2))); !slices.Equal(list, numbers(1, 3, 0, 2)) {
		t.Error(list)
	}
}
