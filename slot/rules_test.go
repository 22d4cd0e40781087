package slot_test

import (
	"slices"
	"testing"

	"peloton/api"
	"peloton/slot"
)

// answer is all that the functions return for some arguments.
type answer struct {
	taken, given api.Slots
	h            api.Handle
	has          bool
	room         int
	errors       [5]api.Errno
}

func ask(s api.Slots, h api.Handle) answer {
	var x answer
	x.errors[0] = slot.Check(s)
	x.taken, x.h, x.errors[1] = slot.Take(s)
	x.given, x.errors[2] = slot.Give(s, h)
	x.has, x.errors[3] = slot.Has(s, h)
	x.room, x.errors[4] = slot.Room(s)
	return x
}

// wanted is what the functions should return, by the definitions: the error that is named first, and nothing else with it.
func wanted(s api.Slots, h api.Handle) answer {
	var x answer
	if !isValid(s) {
		x.errors = [5]api.Errno{api.ErrBad, api.ErrBad, api.ErrBad, api.ErrBad, api.ErrBad}
		return x
	}
	x.taken, x.h, x.errors[1] = afterTaking(s)
	x.given, x.errors[2] = afterGiving(s, h)
	x.has = slices.Contains(liveHandles(s), h)
	x.room = len(s.Free)
	return x
}

// kept is a copy, as otherwise a result that is written over later would look right.
func (x answer) kept() answer {
	x.taken, x.given = clone(x.taken), clone(x.given)
	return x
}

func (x answer) same(y answer) bool {
	return same(x.taken, y.taken) && same(x.given, y.given) && x.h == y.h && x.has == y.has && x.room == y.room && x.errors == y.errors
}

// someHandles are a few handles of a table, valid or not, and others.
func someHandles(s api.Slots) []api.Handle {
	list := []api.Handle{handle(0, 0), handle(0, 1), handle(-1, 1), handle(least, most), handle(most, least)}
	for i := 0; i < len(s.Uses); i += 1 + len(s.Uses)/5 {
		list = append(list, handle(i, s.Uses[i]), handle(i, s.Uses[i]-1), handle(i, s.Uses[i]+1))
	}
	return append(list, handle(len(s.Uses), 1), handle(len(s.Used), 1))
}

// R1, R6 and R7: whatever the arguments are, nothing panics, the error is the first one that applies, and there is nothing else.
func TestWhateverComes(t *testing.T) {
	seen := map[api.Errno]int{}
	for _, s := range allTables() {
		for _, h := range someHandles(s) {
			x, want := ask(s, h), wanted(s, h)
			if !x.same(want) {
				t.Fatal(s, h, x, want)
			}
			for _, e := range x.errors {
				seen[e]++
			}
		}
	}
	for _, e := range []api.Errno{api.OK, api.ErrBad, api.ErrNone, api.ErrFull} {
		if seen[e] < 100 {
			t.Error(e, "seen only", seen[e])
		}
	}
}

// R1: ErrBad comes first, before ErrFull where no slot is free, and before ErrNone where the handle is not live.
func TestBadComesFirst(t *testing.T) {
	bad := [5]api.Errno{api.ErrBad, api.ErrBad, api.ErrBad, api.ErrBad, api.ErrBad}
	for _, s := range []api.Slots{
		{}, taken(201), table(numbers(1, 0), flags("xx")), table(numbers(api.MaxUses+1), flags("x")),
		table(numbers(api.MaxUses, api.MaxUses), flags(".."), 1, 1), table(numbers(1, api.MaxUses), flags("x."), 0, 1),
	} {
		for _, h := range someHandles(s) {
			if x := ask(s, h); !x.same(answer{errors: bad}) {
				t.Error(s, h, x)
			}
		}
	}
}

// R2: nothing is kept from call to call.
func TestNothingIsKept(t *testing.T) {
	list := allTables()
	asked := func(i int) answer {
		s := list[i*5%len(list)]
		handles := someHandles(s)
		return ask(s, handles[i%len(handles)]).kept()
	}
	var before []answer
	for i := range 1500 {
		before = append(before, asked(i))
	}
	for i := len(before) - 1; i >= 0; i-- {
		if x := asked(i); !x.same(before[i]) {
			t.Fatal(i, x, before[i])
		}
	}
}

// fenced is a copy of a slice behind and before other values in the same memory, and that memory.
func fenced[T any](list []T, with T) ([]T, []T) {
	const fence = 70
	memory := slices.Repeat([]T{with}, fence+len(list)+fence)
	copy(memory[fence:], list)
	return memory[fence : fence+len(list)], memory
}

// inFences is the same table in memory of its own, and that memory.
func inFences(s api.Slots) (api.Slots, api.Slots) {
	var memory api.Slots
	s.Uses, memory.Uses = fenced(s.Uses, 77)
	s.Used, memory.Used = fenced(s.Used, true)
	s.Free, memory.Free = fenced(s.Free, -7)
	return s, memory
}

// R1 and R2: arguments are left as they were, with an error or without one, also the memory behind a slice, and what comes behind it changes no result.
func TestArgumentsAreLeft(t *testing.T) {
	for _, s := range allTables() {
		for _, h := range someHandles(s) {
			fence, memory := inFences(s)
			before := clone(memory)
			x := ask(fence, h)
			if !same(memory, before) {
				t.Fatal("changed", s, h)
			}
			if !x.same(wanted(s, h)) {
				t.Fatal("not the same", s, h, x)
			}
		}
	}
}

// fill writes over all of a slice, up to its capacity.
func fill[T any](list []T, with T) {
	list = list[:cap(list)]
	for i := range list {
		list[i] = with
	}
}

// spoil writes over all of a table, up to the capacity of its slices.
func spoil(s api.Slots, uses, free int, used bool) {
	fill(s.Uses, uses)
	fill(s.Free, free)
	fill(s.Used, used)
}

// R2: results share no memory with arguments, nor with results of other calls.
func TestResultsAreNewMemory(t *testing.T) {
	for _, s := range allTables() {
		for _, h := range someHandles(s) {
			fence, memory := inFences(s)
			before := clone(memory)
			kept := ask(s, h).kept()
			first, second := ask(fence, h), ask(fence, h)
			for _, used := range []bool{false, true} {
				spoil(first.taken, -9, -7, used)
				spoil(first.given, -9, -7, used)
				if !same(memory, before) {
					t.Fatal("a result is an argument", s, h)
				}
			}
			if !second.same(kept) {
				t.Fatal("two results share memory", s, h, second, kept)
			}
			for _, used := range []bool{false, true} {
				spoil(memory, -8, -6, used)
				if !second.same(kept) {
					t.Fatal("a result shares memory with an argument", s, h, second, kept)
				}
			}
		}
	}
}

// wantApart fails if the slices of a result share memory with each other, up to their capacity.
func wantApart(t *testing.T, s api.Slots) {
	t.Helper()
	kept := clone(s)
	fill(s.Uses, -9)
	if !slices.Equal(s.Free, kept.Free) {
		t.Fatal("Free is in the memory of Uses", kept)
	}
	copy(s.Uses, kept.Uses)
	fill(s.Free, -9)
	if !slices.Equal(s.Uses, kept.Uses) {
		t.Fatal("Uses are in the memory of Free", kept)
	}
}

// R2: no two slices of a result share memory, and no two tables that are new.
func TestSlicesAreApart(t *testing.T) {
	for _, s := range goodTables() {
		for _, h := range someHandles(s) {
			x := ask(s, h)
			wantApart(t, x.taken)
			wantApart(t, x.given)
		}
	}
	for _, n := range []int{1, 2, 3, 200} {
		a, _ := slot.New(n)
		b, _ := slot.New(n)
		spoil(a, -9, -9, true)
		if c, _ := slot.New(n); !same(b, fresh(n)) || !same(c, fresh(n)) {
			t.Error(n, b, c)
		}
		wantApart(t, b)
	}
}

// R3: a slice without elements is the same one, nil or not.
func TestNilAndEmpty(t *testing.T) {
	for _, empty := range [][]int{nil, {}, make([]int, 0, 9), numbers(5, 5, 5)[:0]} {
		for _, n := range []int{1, 3, 200} {
			s := taken(n)
			s.Free = empty
			for _, h := range someHandles(s) {
				if x := ask(s, h); !x.same(wanted(taken(n), h)) {
					t.Fatal(n, empty, h, x)
				}
			}
		}
		for _, flags := range [][]bool{nil, {}, make([]bool, 0, 9)} {
			s := api.Slots{Uses: empty, Used: flags, Free: empty}
			if x := ask(s, handle(0, 1)); !x.same(wanted(api.Slots{}, handle(0, 1))) {
				t.Fatal(s, x)
			}
		}
	}
}
