package kheap_test

import (
	"slices"
	"testing"

	"peloton/api"
	"peloton/clock"
	"peloton/kheap"
)

// stage has the arguments of all functions: the field for Build and Renew, the clock of the heap for Renew, and the time for Build and Advance.
type stage struct {
	k     api.KHeap
	f     api.Field
	edges []api.Cert
	at    api.Ratio
}

// answer is all that the functions return for some arguments.
type answer struct {
	built, advanced api.KHeap
	renewed         api.Clock
	edges, failed   []api.Cert
	leader          int
	next            api.Event
	errors          [7]api.Errno
}

func ask(s stage) answer {
	var y answer
	y.built, y.errors[0] = kheap.Build(s.f, s.at)
	y.errors[1] = kheap.Check(s.k)
	y.edges, y.errors[2] = kheap.Edges(s.k)
	y.leader, y.errors[3] = kheap.Leader(s.k)
	y.renewed, y.errors[4] = kheap.Renew(s.k.Clock, s.f, s.edges)
	y.next, y.errors[5] = kheap.Next(s.k)
	y.advanced, y.failed, y.errors[6] = kheap.Advance(s.k, s.at)
	return y
}

// wanted is what the functions should return, by the definitions: the error that is named first, and nothing else with it.
func wanted(s stage) answer {
	var y answer
	for i := range y.errors {
		y.errors[i] = api.ErrBad
	}
	y.built, y.errors[0] = made(s.f, s.at)
	y.renewed, y.errors[4] = renewed(s.k.Clock, s.f, s.edges)
	if isValid(s.k) {
		y.edges, y.errors[1], y.errors[2] = edgesOf(s.k.Heap), api.OK, api.OK
		y.leader, y.errors[3] = leader(s.k)
		y.next, y.errors[5] = first(s.k)
		y.advanced, y.failed, y.errors[6] = advanced(s.k, s.at)
	}
	return y
}

// clocks are those of the answer.
func (y *answer) clocks() []*api.Clock {
	return []*api.Clock{&y.built.Clock, &y.renewed, &y.advanced.Clock}
}

// kept is a copy, as otherwise a result that is written over later would look right.
func (y answer) kept() answer {
	for _, c := range y.clocks() {
		*c = cloneClock(*c)
	}
	y.built.Heap, y.advanced.Heap = slices.Clone(y.built.Heap), slices.Clone(y.advanced.Heap)
	y.edges, y.failed = slices.Clone(y.edges), slices.Clone(y.failed)
	return y
}

func (y answer) equals(z answer) bool {
	return same(y.built, z.built) && same(y.advanced, z.advanced) && sameClock(y.renewed, z.renewed) && slices.Equal(y.edges, z.edges) && slices.Equal(y.failed, z.failed) &&
		y.leader == z.leader && y.next == z.next && y.errors == z.errors
}

// variants are some stages with a heap: with its own field, edges and time, and with others that are not valid, or do not belong to it.
func variants(k api.KHeap) []stage {
	f, edges, now := k.Clock.Field, edgesOf(k.Heap), k.Clock.Now
	list := []stage{
		{k, f, edges, now}, {k, f, edges, whole(most)}, {k, f, nil, whole(-most)}, {k, moving(), certs(over(2, 1), over(5, 1)), whole(2)}, {k, moving(), certs(over(2, 1), over(5, 1), over(2, 1)), frac(2, 4)},
		{k, api.Field{Points: make([]api.Point, 65)}, edges, whole(6)}, {k, points(pt(-1, 0, 0)), certs(over(1, 1)), frac(1, 0)}, {k, points(pt(2, 0, 0), pt(1, 0, 0)), certs(over(7, 8)), whole(3)},
		{k, f, certs(over(3, 3), over(1, 2), over(1, 2)), frac(0, 2)}, {k, api.Field{}, certs(over(1, 2)), whole(1)}, {k, level(64), pairsOf(level(64), 12), whole(5)},
	}
	if n := len(f.Points); n > 1 {
		last := f.Points[n-1]
		other := withPoint(f, pt(last.ID, 1-last.A, 2-last.B))
		list = append(list, stage{k, other, edges, now}, stage{k, other, edges[:len(edges)/2], whole(4)}, stage{k, without(f, last.ID), edges, whole(9)}, stage{k, f, append(slices.Clone(edges), over(last.ID, f.Points[0].ID)), whole(8)})
	}
	for i, y := range k.Clock.Agenda.Heap {
		if i < 2 {
			list = append(list, stage{k, f, edges, y.At})
		}
	}
	return list
}

// forAll does something with stages of heaps that are valid, and with some of the others.
func forAll(do func(s stage)) {
	for i, k := range goodHeaps() {
		for j, s := range variants(k) {
			if len(k.Heap) < 30 || (i+j)%4 == 0 {
				do(s)
			}
		}
	}
	for i, k := range fewBadHeaps() {
		for j, s := range variants(k) {
			if (i+j)%4 == 0 {
				do(s)
			}
		}
	}
}

// R1, R6 and R7: whatever the arguments are, nothing panics, the error is the first one that applies, and there is nothing else.
func TestWhateverComes(t *testing.T) {
	seen := map[api.Errno]int{}
	forAll(func(s stage) {
		y, want := ask(s), wanted(s)
		if !y.equals(want) {
			t.Fatal(s, y, want)
		}
		for _, e := range y.errors {
			seen[e]++
		}
	})
	for _, e := range []api.Errno{api.OK, api.ErrMany, api.ErrNone, api.ErrBad, api.ErrTwice, api.ErrFull, api.ErrOrder, api.ErrEmpty, api.ErrPast} {
		if seen[e] < 20 {
			t.Error(e, "seen only", seen[e])
		}
	}
}

// R1 and R7: the same for heaps by chance.
func TestWhateverComesByChance(t *testing.T) {
	m := mixer(150)
	good, bad := 0, 0
	for i := range 400 {
		k := m.spoiled(1 + i%9)
		for j, s := range variants(k) {
			if (i+j)%3 != 0 {
				continue
			}
			y, want := ask(s), wanted(s)
			if !y.equals(want) {
				t.Fatal(s, y, want)
			}
			if y.errors[1] == api.OK {
				good++
			} else {
				bad++
			}
		}
	}
	if good < 100 {
		t.Error("seen only", good)
	}
	enough(t, bad)
}

// R1: ErrBad of the heap comes first, before all errors of the time, and before those of what there is.
func TestBadComesFirst(t *testing.T) {
	empty := build(t, api.Field{}, whole(0))
	for _, k := range []api.KHeap{
		{}, at(empty, frac(1, 0)), with(empty, func(k *api.KHeap) { k.Heap = numbers(0) }), with(empty, func(k *api.KHeap) { k.Clock.Certs.Next = -1 }),
		with(clocked(early(), counted(early().Clock, 0)), func(k *api.KHeap) { k.Heap = numbers(1, 2, 5) }), at(early(), whole(2)),
	} {
		for _, to := range slices.Concat(badTimes(), times()) {
			wantNoAdvance(t, k, to, api.ErrBad)
		}
		wantLeader(t, k, 0, api.ErrBad)
		wantNext(t, k, api.Event{}, api.ErrBad)
		wantEdges(t, k, nil, api.ErrBad)
	}
}

// R2: nothing is kept from call to call.
func TestNothingIsKept(t *testing.T) {
	list := slices.Concat(goodHeaps(), fewBadHeaps())
	asked := func(i int) answer {
		all := variants(list[i*7%len(list)])
		return ask(all[i%len(all)]).kept()
	}
	var before []answer
	for i := range 600 {
		before = append(before, asked(i))
	}
	for i := len(before) - 1; i >= 0; i-- {
		if y := asked(i); !y.equals(before[i]) {
			t.Fatal(i, y, before[i])
		}
	}
}

// fenced is a copy of a slice behind and before other values in the same memory, and that memory.
func fenced[T any](list []T, with T) ([]T, []T) {
	const fence = 20
	memory := slices.Repeat([]T{with}, fence+len(list)+fence)
	copy(memory[fence:], list)
	return memory[fence : fence+len(list)], memory
}

// inFences is the same stage in memory of its own, and that memory, as a stage.
func inFences(s stage) (stage, stage) {
	m := s
	s.f.Points, m.f.Points = fenced(s.f.Points, pt(70, 6, 6))
	s.edges, m.edges = fenced(s.edges, over(8, 9))
	s.k.Heap, m.k.Heap = fenced(s.k.Heap, 66)
	c, o := &s.k.Clock, &m.k.Clock
	c.Field.Points, o.Field.Points = fenced(c.Field.Points, pt(70, 6, 6))
	c.Certs.List, o.Certs.List = fenced(c.Certs.List, held(5, 8, 9))
	c.Agenda.Slots.Uses, o.Agenda.Slots.Uses = fenced(c.Agenda.Slots.Uses, 77)
	c.Agenda.Slots.Used, o.Agenda.Slots.Used = fenced(c.Agenda.Slots.Used, true)
	c.Agenda.Slots.Free, o.Agenda.Slots.Free = fenced(c.Agenda.Slots.Free, -7)
	c.Agenda.Heap, o.Agenda.Heap = fenced(c.Agenda.Heap, event(whole(-99), 7, 7, 7))
	c.Agenda.Where, o.Agenda.Where = fenced(c.Agenda.Where, -5)
	c.Due, o.Due = fenced(c.Due, api.Due{Number: 6, Handle: api.Handle{Index: 6, Use: 6}})
	return s, m
}

// copied is a copy of a stage.
func copied(s stage) stage {
	return stage{clone(s.k), api.Field{Points: slices.Clone(s.f.Points)}, slices.Clone(s.edges), s.at}
}

func sameStage(s, o stage) bool {
	return same(s.k, o.k) && slices.Equal(s.f.Points, o.f.Points) && slices.Equal(s.edges, o.edges) && s.at == o.at
}

// R1 and R2: arguments are left as they were, with an error or without one, also the memory behind a slice, and what comes behind it changes no result.
func TestArgumentsAreLeft(t *testing.T) {
	forAll(func(s stage) {
		want := wanted(s)
		own, memory := inFences(s)
		before := copied(memory)
		y := ask(own)
		if !sameStage(memory, before) {
			t.Fatal("changed", s)
		}
		if !y.equals(want) {
			t.Fatal("not the same", s, y, want)
		}
	})
}

// fill writes over all of a slice, up to its capacity.
func fill[T any](list []T, with T) {
	list = list[:cap(list)]
	for i := range list {
		list[i] = with
	}
}

// spoil writes over all of a clock, up to the capacity of its slices.
func spoil(c api.Clock, n int, used bool) {
	fill(c.Field.Points, pt(n, int64(n), int64(n)))
	fill(c.Certs.List, held(n, n, n))
	fill(c.Agenda.Slots.Uses, n)
	fill(c.Agenda.Slots.Used, used)
	fill(c.Agenda.Slots.Free, n)
	fill(c.Agenda.Heap, event(whole(int64(n)), n, n, n))
	fill(c.Agenda.Where, n)
	fill(c.Due, api.Due{Number: n, Handle: api.Handle{Index: n, Use: n}})
}

// spoilAll writes over all of an answer.
func (y answer) spoilAll(n int, used bool) {
	for _, c := range y.clocks() {
		spoil(*c, n, used)
	}
	fill(y.built.Heap, n)
	fill(y.advanced.Heap, n)
	fill(y.edges, over(n, n))
	fill(y.failed, over(n, n))
}

// R2: results share no memory with arguments, nor with results of other calls.
func TestResultsAreNewMemory(t *testing.T) {
	forAll(func(s stage) {
		kept := ask(s).kept()
		own, memory := inFences(s)
		before := copied(memory)
		one, two := ask(own), ask(own)
		for _, used := range []bool{false, true} {
			one.spoilAll(-9, used)
			if !sameStage(memory, before) {
				t.Fatal("a result is an argument", s)
			}
		}
		if !two.equals(kept) {
			t.Fatal("two results share memory", s, two, kept)
		}
		for _, used := range []bool{false, true} {
			spoil(memory.k.Clock, -8, used)
			fill(memory.k.Heap, -8)
			fill(memory.f.Points, pt(-8, -8, -8))
			fill(memory.edges, over(-8, -8))
			if !two.equals(kept) {
				t.Fatal("a result shares memory with an argument", s, two, kept)
			}
		}
	})
}

// wantApart fails if slices of numbers share memory with each other, up to their capacity.
func wantApart[T comparable](t *testing.T, other T, lists ...[]T) {
	t.Helper()
	var kept [][]T
	for _, list := range lists {
		kept = append(kept, slices.Clone(list))
	}
	for i, list := range lists {
		fill(list, other)
		for k, l := range lists {
			if i != k && !slices.Equal(l, kept[k]) {
				t.Fatal("two slices share memory", i, k, kept)
			}
		}
		copy(list, kept[i])
	}
}

// R2: no two slices of the results of a call, or of several of them, share memory.
func TestSlicesAreApart(t *testing.T) {
	forAll(func(s stage) {
		y := ask(s)
		var ints [][]int
		var fields [][]api.Point
		for _, c := range y.clocks() {
			ints = append(ints, c.Agenda.Slots.Uses, c.Agenda.Slots.Free, c.Agenda.Where)
			fields = append(fields, c.Field.Points)
		}
		wantApart(t, -9, append(ints, y.built.Heap, y.advanced.Heap)...)
		wantApart(t, pt(-9, -9, -9), fields...)
		wantApart(t, over(-9, -9), y.edges, y.failed)
	})
}

// R2: a heap goes on as it was, whatever is made from it.
func TestMadeFromTheSame(t *testing.T) {
	m := mixer(151)
	for i := range 200 {
		f := m.field(2 + i%20)
		base := m.kheapOf(whole(0), f)
		before := clone(base)
		one, list := advance(t, base, m.later(f, whole(0)))
		kept, failed := clone(one), slices.Clone(list)
		other, more := advance(t, base, whole(most))
		c := renew(t, one.Clock, f)
		if !same(one, kept) || !same(base, before) || !slices.Equal(list, failed) {
			t.Fatal(f, base, one)
		}
		for _, used := range []bool{false, true} {
			spoil(other.Clock, -9, used)
			spoil(c, -9, used)
			fill(other.Heap, -9)
			fill(more, over(-9, -9))
			if !same(one, kept) || !same(base, before) || !slices.Equal(list, failed) {
				t.Fatal(f, base, one)
			}
		}
	}
}

// R3: a slice without elements is the same one, nil or not.
func TestNilAndEmpty(t *testing.T) {
	base := clockOf(whole(1), api.Field{})
	for _, way := range [][]api.Point{nil, {}, make([]api.Point, 0, 9), moving().Points[:0]} {
		for _, heap := range [][]int{nil, {}, make([]int, 0, 9)} {
			for _, edges := range [][]api.Cert{nil, {}, make([]api.Cert, 0, 9)} {
				for _, list := range [][]api.Held{nil, {}, make([]api.Held, 0, 9)} {
					c := cloneClock(base)
					c.Field.Points, c.Certs.List = way, list
					c.Agenda.Heap, c.Due = []api.Event{}, []api.Due{}
					s := stage{api.KHeap{Clock: c, Heap: heap}, api.Field{Points: way}, edges, whole(2)}
					if y := ask(s); !y.equals(wanted(stage{api.KHeap{Clock: base}, api.Field{}, nil, whole(2)})) {
						t.Fatal(s, y)
					}
				}
			}
		}
	}
	// A clock with a nil field is not altered to an empty one.
	r := renew(t, base, api.Field{Points: []api.Point{}})
	if !sameClock(r, base) || clock.Check(r) != api.OK {
		t.Error(r)
	}
}
