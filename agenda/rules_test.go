package agenda_test

import (
	"slices"
	"testing"

	"peloton/agenda"
	"peloton/api"
)

// answer is all that the functions return for some arguments.
type answer struct {
	pushed, popped, removed, rekeyed api.Agenda
	h                                api.Handle
	top, first, gone, found          api.Event
	errors                           [7]api.Errno
}

func ask(a api.Agenda, h api.Handle, at api.Ratio, number int) answer {
	var x answer
	x.errors[0] = agenda.Check(a)
	x.pushed, x.h, x.errors[1] = agenda.Push(a, at, number)
	x.top, x.errors[2] = agenda.Top(a)
	x.popped, x.first, x.errors[3] = agenda.Pop(a)
	x.removed, x.gone, x.errors[4] = agenda.Remove(a, h)
	x.rekeyed, x.errors[5] = agenda.Rekey(a, h, at)
	x.found, x.errors[6] = agenda.Find(a, h)
	return x
}

// allBad is the answer for an agenda that is not valid.
func allBad() answer {
	var x answer
	for i := range x.errors {
		x.errors[i] = api.ErrBad
	}
	return x
}

// wanted is what the functions should return, by the definitions: the error that is named first, and nothing else with it.
func wanted(a api.Agenda, h api.Handle, at api.Ratio, number int) answer {
	if !isValid(a) {
		return allBad()
	}
	var x answer
	x.pushed, x.h, x.errors[1] = afterPushing(a, at, number)
	x.top, x.errors[2] = first(a)
	x.popped, x.first, x.errors[3] = afterPopping(a)
	x.removed, x.gone, x.errors[4] = afterRemoving(a, h)
	x.rekeyed, x.errors[5] = afterRekeying(a, h, at)
	x.found, x.errors[6] = found(a, h)
	return x
}

// agendas are those of the answer.
func (x answer) agendas() []api.Agenda {
	return []api.Agenda{x.pushed, x.popped, x.removed, x.rekeyed}
}

// kept is a copy, as otherwise a result that is written over later would look right.
func (x answer) kept() answer {
	x.pushed, x.popped, x.removed, x.rekeyed = clone(x.pushed), clone(x.popped), clone(x.removed), clone(x.rekeyed)
	return x
}

func (x answer) same(y answer) bool {
	return slices.EqualFunc(x.agendas(), y.agendas(), same) && x.h == y.h && x.top == y.top && x.first == y.first && x.gone == y.gone && x.found == y.found && x.errors == y.errors
}

// question is what is asked of an agenda.
type question struct {
	h      api.Handle
	at     api.Ratio
	number int
}

// questions are a few about an agenda, with handles that are live and others, and with times and numbers that are valid and others.
func questions(a api.Agenda) []question {
	list := []question{
		{handle(0, 1), whole(2), 500}, {handle(0, 0), frac(2, 4), 5}, {handle(-1, 1), whole(-2), -1}, {handle(least, most), frac(1, 0), least}, {handle(most, least), frac(1, most), most},
		{handle(1, 1), whole(most), limit}, {handle(1, 2), frac(-most, 1), limit + 1}, {handle(len(a.Where), 1), frac(1, 2), 0},
	}
	for i := 0; i < len(a.Heap); i += 1 + len(a.Heap)/4 {
		x := a.Heap[i]
		list = append(list, question{x.Handle, whole(0), 501}, question{x.Handle, x.At, x.Number}, question{x.Handle, frac(5, 2), 7}, question{x.Handle, whole(least), 501})
	}
	return list
}

// forAll asks all questions of all agendas.
func forAll(f func(a api.Agenda, q question)) {
	for _, a := range allAgendas() {
		for _, q := range questions(a) {
			f(a, q)
		}
	}
}

// R1, R6 and R7: whatever the arguments are, nothing panics, the error is the first one that applies, and there is nothing else.
func TestWhateverComes(t *testing.T) {
	seen := map[api.Errno]int{}
	forAll(func(a api.Agenda, q question) {
		x, want := ask(a, q.h, q.at, q.number), wanted(a, q.h, q.at, q.number)
		if !x.same(want) {
			t.Fatal(a, q, x, want)
		}
		for _, e := range x.errors {
			seen[e]++
		}
	})
	for _, e := range []api.Errno{api.OK, api.ErrArg, api.ErrNone, api.ErrBad, api.ErrTwice, api.ErrFull, api.ErrEmpty} {
		if seen[e] < 100 {
			t.Error(e, "seen only", seen[e])
		}
	}
}

// R1 and R7: the same for agendas by chance.
func TestWhateverComesByChance(t *testing.T) {
	m := mixer(80)
	bad := 0
	for range 4000 {
		a := m.spoiled(1 + m.below(9))
		for _, q := range questions(a) {
			x, want := ask(a, q.h, q.at, q.number), wanted(a, q.h, q.at, q.number)
			if !x.same(want) {
				t.Fatal(a, q, x, want)
			}
			if x.errors[0] == api.ErrBad {
				bad++
			}
		}
	}
	enough(t, bad)
}

// R1: ErrBad of the agenda comes first, before all errors of other arguments, and before ErrEmpty and ErrFull.
func TestBadComesFirst(t *testing.T) {
	for _, a := range []api.Agenda{
		{}, {Slots: fresh(3).Slots}, {Slots: rising(3).Slots}, rising(201), {Slots: fresh(3).Slots, Where: numbers(-1, -1, 0)},
		with(three(), func(a *api.Agenda) { a.Heap[2].Number = -1 }), with(three(), func(a *api.Agenda) { a.Heap[0].At = whole(9) }), of(table(numbers(limit), ".", 0, 0)),
	} {
		for _, at := range append(badTimes(), whole(1)) {
			for _, n := range []int{-1, 4, 5, 900, limit + 1} {
				for _, h := range append(otherHandles(three()), three().Heap[0].Handle) {
					if x := ask(a, h, at, n); !x.same(allBad()) {
						t.Fatal(a, h, at, n, x)
					}
				}
			}
		}
	}
}

// R2: nothing is kept from call to call.
func TestNothingIsKept(t *testing.T) {
	list := allAgendas()
	asked := func(i int) answer {
		a := list[i*7%len(list)]
		q := questions(a)[i%len(questions(a))]
		return ask(a, q.h, q.at, q.number).kept()
	}
	var before []answer
	for i := range 2000 {
		before = append(before, asked(i))
	}
	for i := len(before) - 1; i >= 0; i-- {
		if x := asked(i); !x.same(before[i]) {
			t.Fatal(i, x, before[i])
		}
	}
}

// fenced is a copy of a slice behind and before other values in the same memory, and that memory.
func fenced[T any](list []T, with T) ([]T, []T) {
	const fence = 20
	memory := slices.Repeat([]T{with}, fence+len(list)+fence)
	copy(memory[fence:], list)
	return memory[fence : fence+len(list)], memory
}

// inFences is the same agenda in memory of its own, and that memory.
func inFences(a api.Agenda) (api.Agenda, api.Agenda) {
	var memory api.Agenda
	a.Slots.Uses, memory.Slots.Uses = fenced(a.Slots.Uses, 77)
	a.Slots.Used, memory.Slots.Used = fenced(a.Slots.Used, true)
	a.Slots.Free, memory.Slots.Free = fenced(a.Slots.Free, -7)
	a.Heap, memory.Heap = fenced(a.Heap, event(whole(-99), 7, 7, 7))
	a.Where, memory.Where = fenced(a.Where, -5)
	return a, memory
}

// R1 and R2: arguments are left as they were, with an error or without one, also the memory behind a slice, and what comes behind it changes no result.
func TestArgumentsAreLeft(t *testing.T) {
	forAll(func(a api.Agenda, q question) {
		fence, memory := inFences(a)
		before := clone(memory)
		x := ask(fence, q.h, q.at, q.number)
		if !same(memory, before) {
			t.Fatal("changed", a, q)
		}
		if !x.same(wanted(a, q.h, q.at, q.number)) {
			t.Fatal("not the same", a, q, x)
		}
	})
}

// fill writes over all of a slice, up to its capacity.
func fill[T any](list []T, with T) {
	list = list[:cap(list)]
	for i := range list {
		list[i] = with
	}
}

// spoil writes over all of an agenda, up to the capacity of its slices.
func spoil(a api.Agenda, n int, used bool) {
	fill(a.Slots.Uses, n)
	fill(a.Slots.Used, used)
	fill(a.Slots.Free, n)
	fill(a.Heap, event(whole(int64(n)), n, n, n))
	fill(a.Where, n)
}

// R2: results share no memory with arguments, nor with results of other calls.
func TestResultsAreNewMemory(t *testing.T) {
	forAll(func(a api.Agenda, q question) {
		fence, memory := inFences(a)
		before := clone(memory)
		kept := ask(a, q.h, q.at, q.number).kept()
		first, second := ask(fence, q.h, q.at, q.number), ask(fence, q.h, q.at, q.number)
		for _, used := range []bool{false, true} {
			for _, r := range first.agendas() {
				spoil(r, -9, used)
			}
			if !same(memory, before) {
				t.Fatal("a result is an argument", a, q)
			}
		}
		if !second.same(kept) {
			t.Fatal("two results share memory", a, q, second, kept)
		}
		for _, used := range []bool{false, true} {
			spoil(memory, -8, used)
			if !second.same(kept) {
				t.Fatal("a result shares memory with an argument", a, q, second, kept)
			}
		}
	})
}

// wantApart fails if the slices of an agenda share memory with each other, up to their capacity.
func wantApart(t *testing.T, a api.Agenda) {
	t.Helper()
	kept := clone(a)
	for i, list := range [][]int{a.Slots.Uses, a.Slots.Free, a.Where} {
		fill(list, -9)
		for k, other := range [][2][]int{{a.Slots.Uses, kept.Slots.Uses}, {a.Slots.Free, kept.Slots.Free}, {a.Where, kept.Where}} {
			if i != k && !slices.Equal(other[0], other[1]) {
				t.Fatal("two slices share memory", i, k, kept)
			}
		}
		copy(list, [][]int{kept.Slots.Uses, kept.Slots.Free, kept.Where}[i])
	}
}

// R2: no two slices of a result share memory, and no two agendas that are new.
func TestSlicesAreApart(t *testing.T) {
	for _, a := range goodAgendas() {
		for _, q := range questions(a) {
			for _, r := range ask(a, q.h, q.at, q.number).agendas() {
				wantApart(t, r)
			}
		}
	}
	for _, n := range []int{1, 2, 3, 200} {
		a, _ := agenda.New(n)
		b, _ := agenda.New(n)
		spoil(a, -9, true)
		if c, _ := agenda.New(n); !same(b, fresh(n)) || !same(c, fresh(n)) {
			t.Error(n, b, c)
		}
		wantApart(t, b)
	}
}

// R3: a slice without elements is the same one, nil or not.
func TestNilAndEmpty(t *testing.T) {
	for _, none := range [][]int{nil, {}, make([]int, 0, 9), numbers(5, 5, 5)[:0]} {
		for _, heap := range [][]api.Event{nil, {}, make([]api.Event, 0, 9), three().Heap[:0]} {
			empty, filled := fresh(3), rising(3)
			empty.Heap, filled.Slots.Free = heap, none
			nothing := api.Agenda{Slots: api.Slots{Uses: none, Used: []bool{}, Free: none}, Heap: heap, Where: none}
			for _, q := range slices.Concat(questions(empty), questions(filled)) {
				for _, c := range [][2]api.Agenda{{empty, fresh(3)}, {filled, rising(3)}, {nothing, {}}} {
					if x := ask(c[0], q.h, q.at, q.number); !x.same(wanted(c[1], q.h, q.at, q.number)) {
						t.Fatal(c, q, x)
					}
				}
			}
		}
	}
}
