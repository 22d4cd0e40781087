package agenda_test

import (
	"math"
	"math/big"
	"slices"
	"testing"

	"peloton/agenda"
	"peloton/api"
	"peloton/slot"
)

const (
	most  = math.MaxInt64
	least = math.MinInt64
	limit = api.MaxUses
)

// frac is a fraction as it is written, valid or not.
func frac(num, den int64) api.Ratio {
	return api.Ratio{Num: num, Den: den}
}

// whole is the fraction of a whole number.
func whole(n int64) api.Ratio {
	return frac(n, 1)
}

func handle(index, use int) api.Handle {
	return api.Handle{Index: index, Use: use}
}

// event is an event as it is written, valid or not.
func event(at api.Ratio, number, index, use int) api.Event {
	return api.Event{At: at, Number: number, Handle: handle(index, use)}
}

// table is a table as it is written, valid or not, with a letter for each slot: x where it is used.
func table(uses []int, letters string, free ...int) api.Slots {
	s := api.Slots{Uses: uses, Free: free}
	for _, c := range letters {
		s.Used = append(s.Used, c == 'x')
	}
	return s
}

func numbers(n ...int) []int { return n }

func row(events ...api.Event) []api.Event { return events }

// whereOf is what Where has for the events of a heap whose handles have an index from 0 to n - 1, and no two the same one.
func whereOf(n int, heap []api.Event) []int {
	where := slices.Repeat(numbers(-1), n)
	for i, x := range heap {
		where[x.Handle.Index] = i
	}
	return where
}

// of is an agenda with a table and a heap as they are written, with Where for them.
func of(s api.Slots, heap ...api.Event) api.Agenda {
	return api.Agenda{Slots: s, Heap: heap, Where: whereOf(len(s.Uses), heap)}
}

// fresh is an agenda without events, with n slots that were never used.
func fresh(n int) api.Agenda {
	s := api.Slots{Uses: make([]int, n), Used: make([]bool, n)}
	for i := n - 1; i >= 0; i-- {
		s.Free = append(s.Free, i)
	}
	return of(s)
}

// full is an agenda of n slots that are all used for the first time, with the event i in the slot i, of which each one has the given time and number.
func full(n int, what func(i int) (at api.Ratio, number int)) api.Agenda {
	a := api.Agenda{Slots: api.Slots{Uses: slices.Repeat(numbers(1), n), Used: slices.Repeat([]bool{true}, n)}}
	for i := range n {
		at, number := what(i)
		a.Heap = append(a.Heap, event(at, number, i, 1))
		a.Where = append(a.Where, i)
	}
	return a
}

// rising has the times 0, 1, 2 and so on, with the numbers 5, 6, 7 and so on.
func rising(n int) api.Agenda {
	return full(n, func(i int) (at api.Ratio, number int) { return whole(int64(i)), i + 5 })
}

// level has the time 3 n times, with the numbers 0, 1, 2 and so on.
func level(n int) api.Agenda {
	return full(n, func(i int) (at api.Ratio, number int) { return whole(3), i })
}

// five has four events in five slots, of which 1 is free.
func five() api.Agenda {
	return of(table(numbers(3, 1, 4, 1, 5), "x.xxx", 1), event(whole(1), 9, 4, 5), event(whole(1), 10, 0, 3), event(frac(3, 2), 7, 3, 1), event(whole(2), 0, 2, 4))
}

func same(a, b api.Agenda) bool {
	return sameTable(a.Slots, b.Slots) && slices.Equal(a.Heap, b.Heap) && slices.Equal(a.Where, b.Where)
}

func sameTable(a, b api.Slots) bool {
	return slices.Equal(a.Uses, b.Uses) && slices.Equal(a.Used, b.Used) && slices.Equal(a.Free, b.Free)
}

func clone(a api.Agenda) api.Agenda {
	s := api.Slots{Uses: slices.Clone(a.Slots.Uses), Used: slices.Clone(a.Slots.Used), Free: slices.Clone(a.Slots.Free)}
	return api.Agenda{Slots: s, Heap: slices.Clone(a.Heap), Where: slices.Clone(a.Where)}
}

// mixer makes numbers that look mixed, the same ones in each run.
type mixer uint64

func (m *mixer) below(n int) int {
	*m = *m*6364136223846793005 + 1442695040888963407
	return int((uint64(*m) ^ uint64(*m)>>29) >> 1 % uint64(n))
}

// times are valid, up to both ends of all fractions, and some of them are as close to each other as fractions may be.
func times() []api.Ratio {
	return []api.Ratio{
		whole(0), whole(1), whole(-1), whole(2), frac(1, 2), frac(-1, 2), frac(7, 2), frac(1, 3), frac(2, 3), frac(-7, 5), frac(11, 3), whole(api.MaxNum), frac(1, api.MaxDen),
		whole(most), whole(-most), whole(most - 1), frac(1, most), frac(-1, most), frac(1, most-1), frac(-1, most-1), frac(most, most-1), frac(most-1, most), frac(most-2, most-1), frac(-most, most-1),
	}
}

// badTimes are fractions that are not valid.
func badTimes() []api.Ratio {
	return []api.Ratio{
		{}, frac(1, 0), frac(-1, 0), frac(1, -1), frac(-3, -2), frac(0, 2), frac(2, 2), frac(2, 4), frac(-9, 6), frac(0, -1), frac(3, least), frac(most, most), frac(least, 1), frac(least, 3), frac(least, least),
	}
}

// time is a valid one: one of few, so that many are the same, or one of those at both ends, or any one.
func (m *mixer) time() api.Ratio {
	switch m.below(4) {
	case 0, 1:
		return whole(int64(m.below(5) - 2))
	case 2:
		return times()[m.below(len(times()))]
	}
	num, den := m.below(4000)-2000, m.below(30)+1
	x := big.NewRat(int64(num), int64(den))
	return frac(x.Num().Int64(), x.Denom().Int64())
}

// numbers are n different numbers of events, in mixed order.
func (m *mixer) numbers(n int) []int {
	var list []int
	for len(list) < n {
		number := []int{m.below(limit + 1), m.below(3 * n), 0, limit, limit - m.below(n)}[m.below(5)]
		if !slices.Contains(list, number) {
			list = append(list, number)
		}
	}
	return list
}

// table is a valid table of n slots, of which about so many of ten are used, with Free in mixed order, and with numbers of uses up to the end.
func (m *mixer) table(n, ofTen int) api.Slots {
	var s api.Slots
	for i := range n {
		used := m.below(10) < ofTen
		uses := []int{0, 1, 2, m.below(9), m.below(9), m.below(limit), limit}[m.below(7)]
		if used {
			uses = max(uses, 1)
		} else {
			s.Free = slices.Insert(s.Free, m.below(len(s.Free)+1), i)
		}
		s.Uses, s.Used = append(s.Uses, uses), append(s.Used, used)
	}
	return s
}

// agenda is a valid agenda of n slots.
func (m *mixer) agenda(n int) api.Agenda {
	s := m.table(n, m.below(12))
	var list []api.Event
	for i, used := range s.Used {
		if used {
			list = append(list, event(m.time(), 0, i, s.Uses[i]))
		}
	}
	for i, number := range m.numbers(len(list)) {
		list[i].Number = number
	}
	slices.SortFunc(list, order)
	return of(s, m.heap(list)...)
}

// heap puts events that are in order into a heap, each one into one of the places that it may have, so that heaps come up that pushing alone would not make.
func (m *mixer) heap(list []api.Event) []api.Event {
	heap := make([]api.Event, len(list))
	open := numbers(0)
	for _, x := range list {
		at := m.below(len(open))
		i := open[at]
		open = slices.Delete(open, at, at+1)
		heap[i] = x
		for _, child := range numbers(2*i+1, 2*i+2) {
			if child < len(heap) {
				open = append(open, child)
			}
		}
	}
	return heap
}

// order compares two valid events by the definition, told by another program than this one.
func order(x, y api.Event) int {
	if k := big.NewRat(x.At.Num, x.At.Den).Cmp(big.NewRat(y.At.Num, y.At.Den)); k != 0 {
		return k
	}
	return x.Number - y.Number
}

func isLess(x, y api.Event) bool {
	return order(x, y) < 0
}

// goodAgendas are valid ones, up to both ends of all that is limited.
func goodAgendas() []api.Agenda {
	list := []api.Agenda{
		five(),
		of(table(numbers(limit), ".", 0)), of(table(numbers(0, limit), "..", 0, 1)), of(table(numbers(0, limit), "..", 1, 0)),
		of(table(numbers(1), "x"), event(whole(0), 0, 0, 1)), of(table(numbers(limit), "x"), event(whole(-most), limit, 0, limit)),
		of(table(numbers(4, 7), ".x", 0), event(frac(1, most), 77, 1, 7)),
		// The same time, with numbers in order, and times in another order than the numbers.
		of(table(numbers(1, 1), "xx"), event(whole(4), 0, 1, 1), event(whole(4), 1, 0, 1)), of(table(numbers(1, 1), "xx"), event(whole(4), limit, 0, 1), event(frac(9, 2), 0, 1, 1)),
		// The slot that comes next was used MaxUses times, or just another one.
		of(table(numbers(2, limit, 0), "x..", 2, 1), event(whole(5), 3, 0, 2)), of(table(numbers(2, limit, 0), "x..", 1, 2), event(whole(5), 3, 0, 2)),
	}
	for _, n := range []int{1, 2, 3, 4, 7, 8, 31, 32, 199, 200} {
		list = append(list, fresh(n), rising(n), level(n))
	}
	m := mixer(7)
	for _, n := range []int{1, 1, 2, 2, 3, 3, 4, 5, 6, 7, 9, 15, 16, 40, 199, 200} {
		for range 8 {
			list = append(list, m.agenda(n))
		}
	}
	return list
}

// isTime follows the definition of a valid fraction.
func isTime(r api.Ratio) bool {
	if r.Den < 1 || r.Num == least {
		return false
	}
	x := big.NewRat(r.Num, r.Den)
	return x.Denom().Cmp(big.NewInt(r.Den)) == 0
}

// isValid follows the definition of a valid agenda.
func isValid(a api.Agenda) bool {
	if slot.Check(a.Slots) != api.OK || len(a.Where) != len(a.Slots.Uses) {
		return false
	}
	for i, used := range a.Slots.Used {
		var at []int
		for k, x := range a.Heap {
			if x.Handle.Index == i {
				at = append(at, k)
			}
		}
		if used && (len(at) != 1 || a.Where[i] != at[0]) || !used && (len(at) != 0 || a.Where[i] != -1) {
			return false
		}
	}
	for k, x := range a.Heap {
		if live, _ := slot.Has(a.Slots, x.Handle); !live || !isTime(x.At) || x.Number < 0 || x.Number > 1000000 {
			return false
		}
		for _, y := range a.Heap[:k] {
			if x.Number == y.Number {
				return false
			}
		}
	}
	for k := 1; k < len(a.Heap); k++ {
		if isLess(a.Heap[k], a.Heap[int(math.Floor(float64(k-1)/2))]) {
			return false
		}
	}
	return true
}

// liveHandles are the handles that are live in a valid agenda, by the slots.
func liveHandles(a api.Agenda) []api.Handle {
	var list []api.Handle
	for i, used := range a.Slots.Used {
		if used {
			list = append(list, handle(i, a.Slots.Uses[i]))
		}
	}
	return list
}

// otherHandles are handles that are not live in a valid agenda: those of slots that are free, those that were or that are to come, and those of indexes out of range.
func otherHandles(a api.Agenda) []api.Handle {
	var list []api.Handle
	n := len(a.Slots.Used)
	for i := 0; i < n; i += 1 + n/40 {
		uses := a.Slots.Uses[i]
		if !a.Slots.Used[i] {
			list = append(list, handle(i, uses), handle(i, 0))
		}
		for _, use := range []int{uses - 1, uses + 1, 0, -1, uses + 1<<32, most, least} {
			if use != uses {
				list = append(list, handle(i, use))
			}
		}
	}
	for _, index := range []int{-1, -2, n, n + 1, api.MaxSlots, 1 << 32, most, least} {
		if index < 0 || index >= n {
			list = append(list, handle(index, 0), handle(index, 1), handle(index, a.Slots.Uses[0]))
		}
	}
	return list
}

// enough fails if something was seen so seldom that it was hardly tested.
func enough(t *testing.T, seen int) {
	t.Helper()
	if seen < 1000 {
		t.Error("seen only", seen)
	}
}

// push is Push where an event can be pushed.
func push(t *testing.T, a api.Agenda, at api.Ratio, number int) (api.Agenda, api.Handle) {
	t.Helper()
	r, h, e := agenda.Push(a, at, number)
	if e != api.OK {
		t.Fatal(a, at, number, e)
	}
	return r, h
}

// pop is Pop of an agenda with events.
func pop(t *testing.T, a api.Agenda) (api.Agenda, api.Event) {
	t.Helper()
	r, x, e := agenda.Pop(a)
	if e != api.OK {
		t.Fatal(a, e)
	}
	return r, x
}

// remove is Remove of a handle that is live.
func remove(t *testing.T, a api.Agenda, h api.Handle) (api.Agenda, api.Event) {
	t.Helper()
	r, x, e := agenda.Remove(a, h)
	if e != api.OK {
		t.Fatal(a, h, e)
	}
	return r, x
}

// rekey is Rekey of a handle that is live to a valid time.
func rekey(t *testing.T, a api.Agenda, h api.Handle, at api.Ratio) api.Agenda {
	t.Helper()
	r, e := agenda.Rekey(a, h, at)
	if e != api.OK {
		t.Fatal(a, h, at, e)
	}
	return r
}
