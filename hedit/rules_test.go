package hedit_test

import (
	"slices"
	"testing"

	"peloton/api"
	"peloton/hedit"
)

// stage has the arguments of all functions: the heap, the point for Put and Change, and the ID for Take.
type stage struct {
	k  api.KHeap
	p  api.Point
	id int
}

// answer is all that the functions return for some arguments.
type answer struct {
	put, taken, changed api.KHeap
	errors              [3]api.Errno
}

func ask(s stage) answer {
	var y answer
	y.put, y.errors[0] = hedit.Put(s.k, s.p)
	y.taken, y.errors[1] = hedit.Take(s.k, s.id)
	y.changed, y.errors[2] = hedit.Change(s.k, s.p)
	return y
}

// wanted is what the functions should return, by the definitions: the error that is named first, and nothing else with it.
func wanted(s stage) answer {
	var y answer
	y.put, y.errors[0] = put(s.k, s.p)
	y.taken, y.errors[1] = taken(s.k, s.id)
	y.changed, y.errors[2] = changed(s.k, s.p)
	return y
}

// heaps are those of the answer.
func (y answer) heaps() []api.KHeap {
	return []api.KHeap{y.put, y.taken, y.changed}
}

// kept is a copy, as otherwise a result that is written over later would look right.
func (y answer) kept() answer {
	return answer{clone(y.put), clone(y.taken), clone(y.changed), y.errors}
}

func (y answer) equals(z answer) bool {
	return slices.EqualFunc(y.heaps(), z.heaps(), same) && y.errors == z.errors
}

// variants are some stages with a heap: with points and IDs that it has and that it has not, with others that are not valid, and with a point as it is.
func variants(k api.KHeap) []stage {
	list := []stage{
		{k, pt(70, 0, 0), 70}, {k, pt(700, coord, coord), -1}, {k, pt(3, -coord, -coord), least}, {k, pt(top, 3, 1), top}, {k, pt(2, 9, -1), 2}, {k, pt(1, -9, 3), 1},
		{k, pt(-1, 0, 0), top + 1}, {k, pt(5, coord+1, 0), most}, {k, pt(0, 0, -coord-1), 0}, {k, pt(most, most, most), 5},
	}
	for _, i := range numbers(0, 1, len(k.Heap)/2, len(k.Heap)-1) {
		if i < 0 || i >= len(k.Heap) {
			continue
		}
		p, _ := point(k.Clock.Field, k.Heap[i])
		list = append(list, stage{k, p, p.ID}, stage{k, pt(p.ID, 3-p.A, p.B), p.ID}, stage{k, pt(p.ID, coord, p.B), p.ID}, stage{k, pt(p.ID, -coord, p.B), p.ID})
	}
	return list
}

// forAll does something with stages of heaps that are valid, and with some of the others.
func forAll(do func(s stage)) {
	for i, k := range goodHeaps() {
		for j, s := range variants(k) {
			if len(k.Heap) < 30 || (i+j)%4 == 0 {
				do(s)
			}
		}
	}
	for i, k := range fewBadHeaps() {
		for j, s := range variants(k) {
			if (i+j)%5 == 0 {
				do(s)
			}
		}
	}
}

// R1, R6 and R7: whatever the arguments are, nothing panics, the error is the first one that applies, and there is nothing else.
func TestWhateverComes(t *testing.T) {
	seen := map[api.Errno]int{}
	forAll(func(s stage) {
		y, want := ask(s), wanted(s)
		if !y.equals(want) {
			t.Fatal(s, y, want)
		}
		for _, e := range y.errors {
			seen[e]++
		}
	})
	for _, e := range []api.Errno{api.OK, api.ErrNone, api.ErrBad, api.ErrTwice, api.ErrFull} {
		if seen[e] < 50 {
			t.Error(e, "seen only", seen[e])
		}
	}
}

// R1 and R7: the same for heaps by chance, valid or not.
func TestWhateverComesByChance(t *testing.T) {
	m := mixer(181)
	good, bad := 0, 0
	for i := range 400 {
		k := m.spoiled(1 + i%9)
		for j, s := range variants(k) {
			if (i+j)%5 != 0 {
				continue
			}
			y, want := ask(s), wanted(s)
			if !y.equals(want) {
				t.Fatal(s, y, want)
			}
			if isValid(k) {
				good++
			} else {
				bad++
			}
		}
	}
	if good < 100 {
		t.Error("seen only", good)
	}
	enough(t, bad)
}

// R1: ErrBad of the heap comes first, before the errors of the field, and those before the one of the clock.
func TestBadComesFirst(t *testing.T) {
	full := build(t, standing(64), whole(0))
	for _, k := range []api.KHeap{
		{}, with(stand(), func(k *api.KHeap) { k.Heap = numbers(0) }), with(stand(3), func(k *api.KHeap) { k.Clock.Certs.Next = -1 }), with(early(), func(k *api.KHeap) { k.Clock.Now = whole(2) }),
		with(clocked(early(), counted(early().Clock, 0)), func(k *api.KHeap) { k.Heap = numbers(1, 2, 5) }), with(full, func(k *api.KHeap) { k.Heap[63] = 62 }), with(full, func(k *api.KHeap) { k.Clock.Now = frac(0, 2) }),
	} {
		for _, s := range variants(k) {
			if y := ask(s); !y.equals(answer{errors: [3]api.Errno{api.ErrBad, api.ErrBad, api.ErrBad}}) {
				t.Fatal(s, y)
			}
		}
	}
	// The numbers have run out, and all else is named before.
	k := clocked(early(), counted(early().Clock, 0))
	for _, x := range []struct {
		s stage
		e [3]api.Errno
	}{
		{stage{k, pt(7, 9, -1), 2}, [3]api.Errno{api.ErrFull, api.ErrFull, api.ErrNone}}, {stage{k, pt(5, 9, -1), 3}, [3]api.Errno{api.ErrTwice, api.ErrNone, api.ErrFull}}, {stage{k, pt(5, coord+1, -1), -1}, [3]api.Errno{api.ErrBad, api.ErrNone, api.ErrBad}},
	} {
		if y := ask(x.s); !y.equals(answer{errors: x.e}) {
			t.Fatal(x, y)
		}
	}
}

// R2: nothing is kept from call to call.
func TestNothingIsKept(t *testing.T) {
	list := slices.Concat(goodHeaps(), fewBadHeaps())
	asked := func(i int) answer {
		all := variants(list[i*7%len(list)])
		return ask(all[i%len(all)]).kept()
	}
	var before []answer
	for i := range 600 {
		before = append(before, asked(i))
	}
	for i := len(before) - 1; i >= 0; i-- {
		if y := asked(i); !y.equals(before[i]) {
			t.Fatal(i, y, before[i])
		}
	}
}

// fenced is a copy of a slice behind and before other values in the same memory, and that memory.
func fenced[T any](list []T, with T) ([]T, []T) {
	const fence = 20
	memory := slices.Repeat([]T{with}, fence+len(list)+fence)
	copy(memory[fence:], list)
	return memory[fence : fence+len(list)], memory
}

// inFences is the same heap in memory of its own, and that memory, as a heap.
func inFences(k api.KHeap) (api.KHeap, api.KHeap) {
	m := k
	k.Heap, m.Heap = fenced(k.Heap, 66)
	c, o := &k.Clock, &m.Clock
	c.Field.Points, o.Field.Points = fenced(c.Field.Points, pt(70, 6, 6))
	c.Certs.List, o.Certs.List = fenced(c.Certs.List, held(5, 8, 9))
	c.Agenda.Slots.Uses, o.Agenda.Slots.Uses = fenced(c.Agenda.Slots.Uses, 77)
	c.Agenda.Slots.Used, o.Agenda.Slots.Used = fenced(c.Agenda.Slots.Used, true)
	c.Agenda.Slots.Free, o.Agenda.Slots.Free = fenced(c.Agenda.Slots.Free, -7)
	c.Agenda.Heap, o.Agenda.Heap = fenced(c.Agenda.Heap, event(whole(-99), 7, 7, 7))
	c.Agenda.Where, o.Agenda.Where = fenced(c.Agenda.Where, -5)
	c.Due, o.Due = fenced(c.Due, api.Due{Number: 6, Handle: api.Handle{Index: 6, Use: 6}})
	return k, m
}

// R1 and R2: arguments are left as they were, with an error or without one, also the memory behind a slice, and what comes behind it changes no result.
func TestArgumentsAreLeft(t *testing.T) {
	forAll(func(s stage) {
		want := wanted(s)
		own, memory := inFences(s.k)
		before := clone(memory)
		y := ask(stage{own, s.p, s.id})
		if !same(memory, before) {
			t.Fatal("changed", s)
		}
		if !y.equals(want) {
			t.Fatal("not the same", s, y, want)
		}
	})
}

// fill writes over all of a slice, up to its capacity.
func fill[T any](list []T, with T) {
	list = list[:cap(list)]
	for i := range list {
		list[i] = with
	}
}

// spoil writes over all of a heap, up to the capacity of its slices.
func spoil(k api.KHeap, n int, used bool) {
	c := k.Clock
	fill(k.Heap, n)
	fill(c.Field.Points, pt(n, int64(n), int64(n)))
	fill(c.Certs.List, held(n, n, n))
	fill(c.Agenda.Slots.Uses, n)
	fill(c.Agenda.Slots.Used, used)
	fill(c.Agenda.Slots.Free, n)
	fill(c.Agenda.Heap, event(whole(int64(n)), n, n, n))
	fill(c.Agenda.Where, n)
	fill(c.Due, api.Due{Number: n, Handle: api.Handle{Index: n, Use: n}})
}

// R2: results share no memory with arguments, nor with results of other calls.
func TestResultsAreNewMemory(t *testing.T) {
	forAll(func(s stage) {
		kept := ask(s).kept()
		own, memory := inFences(s.k)
		before := clone(memory)
		one, two := ask(stage{own, s.p, s.id}), ask(stage{own, s.p, s.id})
		for _, used := range []bool{false, true} {
			for _, k := range one.heaps() {
				spoil(k, -9, used)
			}
			if !same(memory, before) {
				t.Fatal("a result is an argument", s)
			}
		}
		if !two.equals(kept) {
			t.Fatal("two results share memory", s, two, kept)
		}
		for _, used := range []bool{false, true} {
			spoil(memory, -8, used)
			if !two.equals(kept) {
				t.Fatal("a result shares memory with an argument", s, two, kept)
			}
		}
	})
}

// wantApart fails if slices share memory with each other, up to their capacity.
func wantApart[T comparable](t *testing.T, other T, lists ...[]T) {
	t.Helper()
	var kept [][]T
	for _, list := range lists {
		kept = append(kept, slices.Clone(list))
	}
	for i, list := range lists {
		fill(list, other)
		for k, l := range lists {
			if i != k && !slices.Equal(l, kept[k]) {
				t.Fatal("two slices share memory", i, k, kept)
			}
		}
		copy(list, kept[i])
	}
}

// R2: no two slices of the results of a call, or of several of them, share memory.
func TestSlicesAreApart(t *testing.T) {
	forAll(func(s stage) {
		var ints [][]int
		var fields [][]api.Point
		for _, k := range ask(s).heaps() {
			a := k.Clock.Agenda
			ints = append(ints, k.Heap, a.Slots.Uses, a.Slots.Free, a.Where)
			fields = append(fields, k.Clock.Field.Points)
		}
		wantApart(t, -9, ints...)
		wantApart(t, pt(-9, -9, -9), fields...)
	})
}

// R2: a heap goes on as it was, whatever is made from it.
func TestMadeFromTheSame(t *testing.T) {
	m := mixer(182)
	for i := range 200 {
		base := m.kheap(2 + i%20)
		before := clone(base)
		p, id := m.there(base), m.id(base)
		one := ask(stage{base, p, id})
		kept := one.kept()
		for _, k := range one.heaps() {
			other := ask(stage{k, p, id})
			for _, used := range []bool{false, true} {
				for _, x := range other.heaps() {
					spoil(x, -9, used)
				}
				if !one.equals(kept) || !same(base, before) {
					t.Fatal(base, one)
				}
			}
		}
	}
}

// R3: a slice without elements is the same one, nil or not.
func TestNilAndEmpty(t *testing.T) {
	base := clockOf(whole(1), api.Field{})
	want := wanted(stage{api.KHeap{Clock: base}, pt(3, 1, 1), 3})
	for _, way := range [][]api.Point{nil, {}, make([]api.Point, 0, 9), moving().Points[:0]} {
		for _, heap := range [][]int{nil, {}, make([]int, 0, 9), numbers(4, 5)[:0]} {
			for _, list := range [][]api.Held{nil, {}, make([]api.Held, 0, 9)} {
				for _, due := range [][]api.Due{nil, {}, make([]api.Due, 0, 9)} {
					c := cloneClock(base)
					c.Field.Points, c.Certs.List, c.Due = way, list, due
					c.Agenda.Heap = []api.Event{}
					s := stage{api.KHeap{Clock: c, Heap: heap}, pt(3, 1, 1), 3}
					if y := ask(s); !y.equals(want) {
						t.Fatal(s, y)
					}
				}
			}
		}
	}
	if want.errors != [3]api.Errno{api.OK, api.ErrNone, api.ErrNone} {
		t.Error(want)
	}
}
