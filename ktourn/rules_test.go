package ktourn_test

import (
	"slices"
	"testing"

	"peloton/api"
	"peloton/ktourn"
)

// stage has the arguments of all functions: the field for Build, and the time for Build and Advance.
type stage struct {
	k  api.KTourn
	f  api.Field
	at api.Ratio
}

// answer is all that the functions return for some arguments.
type answer struct {
	built, advanced api.KTourn
	edges, failed   []api.Cert
	leader          int
	errors          [5]api.Errno
}

func ask(s stage) answer {
	var y answer
	y.built, y.errors[0] = ktourn.Build(s.f, s.at)
	y.errors[1] = ktourn.Check(s.k)
	y.edges, y.errors[2] = ktourn.Edges(s.k)
	y.leader, y.errors[3] = ktourn.Leader(s.k)
	y.advanced, y.failed, y.errors[4] = ktourn.Advance(s.k, s.at)
	return y
}

// wanted is what the functions should return, by the definitions: the error that is named first, and nothing else with it.
func wanted(s stage) answer {
	var y answer
	for i := range y.errors {
		y.errors[i] = api.ErrBad
	}
	y.built, y.errors[0] = made(s.f, s.at)
	if isValid(s.k) {
		y.edges, y.errors[1], y.errors[2] = edgesOf(s.k.Bracket), api.OK, api.OK
		y.leader, y.errors[3] = leader(s.k)
		y.advanced, y.failed, y.errors[4] = advanced(s.k, s.at)
	}
	return y
}

// kept is a copy, as otherwise a result that is written over later would look right.
func (y answer) kept() answer {
	y.built, y.advanced = clone(y.built), clone(y.advanced)
	y.edges, y.failed = slices.Clone(y.edges), slices.Clone(y.failed)
	return y
}

func (y answer) equals(z answer) bool {
	return same(y.built, z.built) && same(y.advanced, z.advanced) && slices.Equal(y.edges, z.edges) && slices.Equal(y.failed, z.failed) && y.leader == z.leader && y.errors == z.errors
}

// variants are some stages with a tournament: with its own field and time, and with others that are not valid, or do not belong to it.
func variants(k api.KTourn) []stage {
	f, now := k.Clock.Field, k.Clock.Now
	list := []stage{
		{k, f, now}, {k, f, whole(most)}, {k, f, whole(-most)}, {k, moving(), whole(2)}, {k, f, frac(2, 4)}, {k, api.Field{Points: make([]api.Point, 65)}, whole(6)}, {k, points(pt(-1, 0, 0)), frac(1, 0)},
		{k, points(pt(2, 0, 0), pt(1, 0, 0)), whole(3)}, {k, api.Field{}, whole(1)}, {k, crowd(64), whole(5)}, {k, points(pt(3, 0, coord+1)), now},
	}
	for i, y := range k.Clock.Agenda.Heap {
		if i < 3 {
			list = append(list, stage{k, f, y.At})
		}
	}
	return list
}

// forAll does something with stages of tournaments that are valid, and with some of the others.
func forAll(do func(s stage)) {
	for i, k := range goodTourns() {
		for j, s := range variants(k) {
			if len(k.Clock.Field.Points) < 30 || (i+j)%4 == 0 {
				do(s)
			}
		}
	}
	for i, k := range fewBadTourns() {
		for j, s := range variants(k) {
			if (i+j)%4 == 0 {
				do(s)
			}
		}
	}
}

// R1, R6 and R7: whatever the arguments are, nothing panics, the error is the first one that applies, and there is nothing else.
func TestWhateverComes(t *testing.T) {
	seen := map[api.Errno]int{}
	forAll(func(s stage) {
		y, want := ask(s), wanted(s)
		if !y.equals(want) {
			t.Fatal(s, y, want)
		}
		for _, e := range y.errors {
			seen[e]++
		}
	})
	for _, e := range []api.Errno{api.OK, api.ErrMany, api.ErrBad, api.ErrFull, api.ErrOrder, api.ErrEmpty, api.ErrPast} {
		if seen[e] < 20 {
			t.Error(e, "seen only", seen[e])
		}
	}
}

// R1 and R7: the same for tournaments by chance.
func TestWhateverComesByChance(t *testing.T) {
	m := mixer(171)
	good, bad := 0, 0
	for i := range 500 {
		k := m.spoiled(i % 10)
		for j, s := range variants(k) {
			if (i+j)%3 != 0 {
				continue
			}
			y, want := ask(s), wanted(s)
			if !y.equals(want) {
				t.Fatal(s, y, want)
			}
			if y.errors[1] == api.OK {
				good++
			} else {
				bad++
			}
		}
	}
	if good < 100 {
		t.Error("seen only", good)
	}
	enough(t, bad)
}

// R1: ErrBad of the tournament comes first, before all errors of the time, and before those of what there is.
func TestBadComesFirst(t *testing.T) {
	empty := build(t, api.Field{}, whole(0))
	for _, k := range []api.KTourn{
		{}, at(empty, frac(1, 0)), with(empty, func(k *api.KTourn) { k.Bracket.Places = numbers(0) }), with(empty, func(k *api.KTourn) { k.Bracket.Places = nil }), with(empty, func(k *api.KTourn) { k.Clock.Certs.Next = -1 }), tournOf(whole(0), api.Field{}, empties(3)...),
		with(clocked(early(), counted(early().Clock, 0)), func(k *api.KTourn) { k.Bracket.Wins = numbers(1, 1, 5) }), at(early(), whole(2)),
	} {
		for _, to := range slices.Concat(badTimes(), times()) {
			wantNoAdvance(t, k, to, api.ErrBad)
		}
		wantLeader(t, k, 0, api.ErrBad)
		wantEdges(t, k, nil, api.ErrBad)
	}
}

// R2: nothing is kept from call to call.
func TestNothingIsKept(t *testing.T) {
	list := slices.Concat(goodTourns(), fewBadTourns())
	asked := func(i int) answer {
		all := variants(list[i*7%len(list)])
		return ask(all[i%len(all)]).kept()
	}
	var before []answer
	for i := range 600 {
		before = append(before, asked(i))
	}
	for i := len(before) - 1; i >= 0; i-- {
		if y := asked(i); !y.equals(before[i]) {
			t.Fatal(i, y, before[i])
		}
	}
}

// fenced is a copy of a slice behind and before other values in the same memory, and that memory.
func fenced[T any](list []T, with T) ([]T, []T) {
	const fence = 20
	memory := slices.Repeat([]T{with}, fence+len(list)+fence)
	copy(memory[fence:], list)
	return memory[fence : fence+len(list)], memory
}

// inFences is the same stage in memory of its own, and that memory, as a stage.
func inFences(s stage) (stage, stage) {
	m := s
	s.f.Points, m.f.Points = fenced(s.f.Points, pt(70, 6, 6))
	s.k.Bracket.Places, m.k.Bracket.Places = fenced(s.k.Bracket.Places, 66)
	s.k.Bracket.Wins, m.k.Bracket.Wins = fenced(s.k.Bracket.Wins, 67)
	c, o := &s.k.Clock, &m.k.Clock
	c.Field.Points, o.Field.Points = fenced(c.Field.Points, pt(70, 6, 6))
	c.Certs.List, o.Certs.List = fenced(c.Certs.List, held(5, 8, 9))
	c.Agenda.Slots.Uses, o.Agenda.Slots.Uses = fenced(c.Agenda.Slots.Uses, 77)
	c.Agenda.Slots.Used, o.Agenda.Slots.Used = fenced(c.Agenda.Slots.Used, true)
	c.Agenda.Slots.Free, o.Agenda.Slots.Free = fenced(c.Agenda.Slots.Free, -7)
	c.Agenda.Heap, o.Agenda.Heap = fenced(c.Agenda.Heap, event(whole(-99), 7, 7, 7))
	c.Agenda.Where, o.Agenda.Where = fenced(c.Agenda.Where, -5)
	c.Due, o.Due = fenced(c.Due, api.Due{Number: 6, Handle: api.Handle{Index: 6, Use: 6}})
	return s, m
}

// copied is a copy of a stage.
func copied(s stage) stage {
	return stage{clone(s.k), api.Field{Points: slices.Clone(s.f.Points)}, s.at}
}

func sameStage(s, o stage) bool {
	return same(s.k, o.k) && slices.Equal(s.f.Points, o.f.Points) && s.at == o.at
}

// R1 and R2: arguments are left as they were, with an error or without one, also the memory behind a slice, and what comes behind it changes no result.
func TestArgumentsAreLeft(t *testing.T) {
	forAll(func(s stage) {
		want := wanted(s)
		own, memory := inFences(s)
		before := copied(memory)
		y := ask(own)
		if !sameStage(memory, before) {
			t.Fatal("changed", s)
		}
		if !y.equals(want) {
			t.Fatal("not the same", s, y, want)
		}
	})
}

// fill writes over all of a slice, up to its capacity.
func fill[T any](list []T, with T) {
	list = list[:cap(list)]
	for i := range list {
		list[i] = with
	}
}

// spoil writes over all of a tournament, up to the capacity of its slices.
func spoil(k api.KTourn, n int, used bool) {
	c := k.Clock
	fill(c.Field.Points, pt(n, int64(n), int64(n)))
	fill(c.Certs.List, held(n, n, n))
	fill(c.Agenda.Slots.Uses, n)
	fill(c.Agenda.Slots.Used, used)
	fill(c.Agenda.Slots.Free, n)
	fill(c.Agenda.Heap, event(whole(int64(n)), n, n, n))
	fill(c.Agenda.Where, n)
	fill(c.Due, api.Due{Number: n, Handle: api.Handle{Index: n, Use: n}})
	fill(k.Bracket.Places, n)
	fill(k.Bracket.Wins, n)
}

// spoilAll writes over all of an answer.
func (y answer) spoilAll(n int, used bool) {
	spoil(y.built, n, used)
	spoil(y.advanced, n, used)
	fill(y.edges, over(n, n))
	fill(y.failed, over(n, n))
}

// R2: results share no memory with arguments, nor with results of other calls.
func TestResultsAreNewMemory(t *testing.T) {
	forAll(func(s stage) {
		kept := ask(s).kept()
		own, memory := inFences(s)
		before := copied(memory)
		one, two := ask(own), ask(own)
		for _, used := range []bool{false, true} {
			one.spoilAll(-9, used)
			if !sameStage(memory, before) {
				t.Fatal("a result is an argument", s)
			}
		}
		if !two.equals(kept) {
			t.Fatal("two results share memory", s, two, kept)
		}
		for _, used := range []bool{false, true} {
			spoil(memory.k, -8, used)
			fill(memory.f.Points, pt(-8, -8, -8))
			if !two.equals(kept) {
				t.Fatal("a result shares memory with an argument", s, two, kept)
			}
		}
	})
}

// wantApart fails if slices of numbers share memory with each other, up to their capacity.
func wantApart[T comparable](t *testing.T, other T, lists ...[]T) {
	t.Helper()
	var kept [][]T
	for _, list := range lists {
		kept = append(kept, slices.Clone(list))
	}
	for i, list := range lists {
		fill(list, other)
		for k, l := range lists {
			if i != k && !slices.Equal(l, kept[k]) {
				t.Fatal("two slices share memory", i, k, kept)
			}
		}
		copy(list, kept[i])
	}
}

// R2: no two slices of the results of a call, or of several of them, share memory.
func TestSlicesAreApart(t *testing.T) {
	forAll(func(s stage) {
		y := ask(s)
		var ints [][]int
		for _, k := range []api.KTourn{y.built, y.advanced} {
			ints = append(ints, k.Clock.Agenda.Slots.Uses, k.Clock.Agenda.Slots.Free, k.Clock.Agenda.Where, k.Bracket.Places, k.Bracket.Wins)
		}
		wantApart(t, -9, ints...)
		wantApart(t, pt(-9, -9, -9), y.built.Clock.Field.Points, y.advanced.Clock.Field.Points)
		wantApart(t, over(-9, -9), y.edges, y.failed)
	})
}

// R2: a tournament goes on as it was, whatever is made from it.
func TestMadeFromTheSame(t *testing.T) {
	m := mixer(172)
	for i := range 200 {
		f := m.field(2 + i%20)
		base := m.tournOf(whole(0), f)
		before := clone(base)
		one, list := advance(t, base, m.later(f, whole(0)))
		kept, failed := clone(one), slices.Clone(list)
		other, more := advance(t, base, whole(most))
		last, rest := advance(t, one, whole(most))
		if !same(one, kept) || !same(base, before) || !slices.Equal(list, failed) {
			t.Fatal(f, base, one)
		}
		for _, used := range []bool{false, true} {
			spoil(other, -9, used)
			spoil(last, -9, used)
			fill(more, over(-9, -9))
			fill(rest, over(-9, -9))
			if !same(one, kept) || !same(base, before) || !slices.Equal(list, failed) {
				t.Fatal(f, base, one)
			}
		}
	}
}

// R3: a slice without elements is the same one, nil or not.
func TestNilAndEmpty(t *testing.T) {
	base := tournOf(whole(1), api.Field{}, -1)
	for _, way := range [][]api.Point{nil, {}, make([]api.Point, 0, 9), moving().Points[:0]} {
		for _, wins := range [][]int{nil, {}, make([]int, 0, 9)} {
			for _, list := range [][]api.Held{nil, {}, make([]api.Held, 0, 9)} {
				k := clone(base)
				k.Clock.Field.Points, k.Bracket.Wins, k.Clock.Certs.List = way, wins, list
				k.Clock.Agenda.Heap, k.Clock.Due = []api.Event{}, []api.Due{}
				s := stage{k, api.Field{Points: way}, whole(2)}
				if y := ask(s); y.errors[1] != api.OK || !y.equals(wanted(stage{base, api.Field{}, whole(2)})) {
					t.Fatal(s, y)
				}
			}
		}
	}
	// No places are not one that is empty.
	for _, places := range [][]int{nil, {}, make([]int, 0, 9)} {
		wantCheck(t, with(base, func(k *api.KTourn) { k.Bracket.Places = places }), api.ErrBad)
	}
}
