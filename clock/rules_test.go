package clock_test

import (
	"slices"
	"testing"

	"peloton/api"
	"peloton/clock"
)

// question is what is asked of a clock.
type question struct {
	x      api.Cert
	number int
	to     api.Ratio
	f      api.Field
}

// answer is all that the functions return for some arguments.
type answer struct {
	made, certified, retired, failed, moved, altered api.Clock
	number                                           int
	next, event                                      api.Event
	gone                                             api.Cert
	errors                                           [8]api.Errno
}

func ask(c api.Clock, q question) answer {
	var y answer
	y.made, y.errors[0] = clock.New(q.f, q.to)
	y.errors[1] = clock.Check(c)
	y.certified, y.number, y.errors[2] = clock.Certify(c, q.x)
	y.retired, y.errors[3] = clock.Retire(c, q.number)
	y.next, y.errors[4] = clock.Next(c)
	y.failed, y.event, y.gone, y.errors[5] = clock.Fail(c, q.to)
	y.moved, y.errors[6] = clock.Move(c, q.to)
	y.altered, y.errors[7] = clock.Alter(c, q.f)
	return y
}

// allBad is the answer for a clock that is not valid.
func allBad(q question) answer {
	var y answer
	y.made, y.errors[0] = made(q.f, q.to)
	for i := range y.errors[1:] {
		y.errors[1+i] = api.ErrBad
	}
	return y
}

// wanted is what the functions should return, by the definitions: the error that is named first, and nothing else with it.
func wanted(c api.Clock, q question) answer {
	y := allBad(q)
	if !isValid(c) {
		return y
	}
	y.errors[1] = api.OK
	y.certified, y.number, y.errors[2] = afterCertifying(c, q.x)
	y.retired, y.errors[3] = afterRetiring(c, q.number)
	y.next, y.errors[4] = first(c)
	y.failed, y.event, y.gone, y.errors[5] = afterFailing(c, q.to)
	y.moved, y.errors[6] = afterMoving(c, q.to)
	y.altered, y.errors[7] = afterAltering(c, q.f)
	return y
}

// clocks are those of the answer.
func (y *answer) clocks() []*api.Clock {
	return []*api.Clock{&y.made, &y.certified, &y.retired, &y.failed, &y.moved, &y.altered}
}

// kept is a copy, as otherwise a result that is written over later would look right.
func (y answer) kept() answer {
	for _, c := range y.clocks() {
		*c = clone(*c)
	}
	return y
}

func (y answer) same(z answer) bool {
	for i, c := range y.clocks() {
		if !same(*c, *z.clocks()[i]) {
			return false
		}
	}
	return y.number == z.number && y.next == z.next && y.event == z.event && y.gone == z.gone && y.errors == z.errors
}

// questions are a few about a clock, with certificates, numbers, times and fields that are right for it, and others.
func questions(c api.Clock) []question {
	f := c.Field
	list := []question{
		{over(1, 2), 0, c.Now, f}, {over(5, 2), -1, whole(most), moving()}, {over(4, 4), c.Certs.Next, frac(2, 4), points(pt(-1, 0, 0))}, {over(1, 9), c.Certs.Next - 1, whole(-most), points(pt(2, 0, 0), pt(1, 0, 0))},
		{over(-1, 2), least, frac(0, 2), api.Field{}}, {over(2, 1), most, whole(6), api.Field{Points: make([]api.Point, 65)}}, {over(63, 62), 2, whole(5), level(64)},
	}
	if n := len(f.Points); n > 1 {
		last := f.Points[n-1]
		list = append(list, question{over(f.Points[0].ID, last.ID), 1, whole(3), withPoint(f, pt(last.ID, 1-last.A, 2-last.B))}, question{over(last.ID, f.Points[0].ID), 3, whole(2), api.Field{Points: f.Points[:n-1]}})
	}
	for i := 0; i < len(c.Due); i += 1 + len(c.Due)/2 {
		y, _ := eventOf(c.Agenda, c.Due[i].Number)
		list = append(list, question{over(2, 5), c.Due[i].Number, y.At, f})
	}
	for i := 0; i < len(c.Certs.List); i += 1 + len(c.Certs.List)/2 {
		h := c.Certs.List[i]
		list = append(list, question{h.Cert, h.Number, whole(int64(i)), moving()})
	}
	return list
}

// forAll asks all questions of clocks that are valid, and some of the others, to which the answer does not depend on the question.
func forAll(do func(c api.Clock, q question)) {
	good := len(goodClocks())
	for i, c := range allClocks() {
		for k, q := range questions(c) {
			if i < good || (i+k)%5 == 0 {
				do(c, q)
			}
		}
	}
}

// R1, R6 and R7: whatever the arguments are, nothing panics, the error is the first one that applies, and there is nothing else.
func TestWhateverComes(t *testing.T) {
	seen := map[api.Errno]int{}
	forAll(func(c api.Clock, q question) {
		y, want := ask(c, q), wanted(c, q)
		if !y.same(want) {
			t.Fatal(c, q, y, want)
		}
		for _, e := range y.errors {
			seen[e]++
		}
	})
	for _, e := range []api.Errno{api.OK, api.ErrMany, api.ErrNone, api.ErrBad, api.ErrTwice, api.ErrFull, api.ErrOrder, api.ErrState, api.ErrEmpty, api.ErrPast} {
		if seen[e] < 30 {
			t.Error(e, "seen only", seen[e])
		}
	}
}

// R1 and R7: the same for clocks by chance.
func TestWhateverComesByChance(t *testing.T) {
	m := mixer(108)
	good, bad := 0, 0
	for i := range 1500 {
		c := m.spoiled(1 + i%9)
		for _, q := range questions(c) {
			y, want := ask(c, q), wanted(c, q)
			if !y.same(want) {
				t.Fatal(c, q, y, want)
			}
			if y.errors[1] == api.ErrBad {
				bad++
			} else {
				good++
			}
		}
	}
	enough(t, good)
	enough(t, bad)
}

// R1: ErrBad of the clock comes first, before all errors of other arguments, and before those of what there is.
func TestBadComesFirst(t *testing.T) {
	clocks := []api.Clock{
		{}, at(example(), whole(3)), at(example(), frac(2, 2)), at(bare(whole(1), moving()), frac(1, 0)), bare(whole(1), points(pt(-1, 0, 0))), bare(whole(1), level(65)), bare(whole(1), points(pt(2, 0, 0), pt(1, 0, 0))),
		resized(bare(whole(1), moving()), 199), with(blocked(example()), func(c *api.Clock) { c.Due = nil }), with(bare(whole(1), moving()), func(c *api.Clock) { c.Certs.Next = limit + 1 }),
	}
	var all []api.Field
	for _, list := range badFields() {
		all = append(all, list[:3]...)
	}
	all = append(all, api.Field{}, moving(), level(64))
	for _, c := range clocks {
		for i, x := range append(badCerts()[:20], over(2, 1), over(1, 2), over(8, 9)) {
			for _, f := range all {
				for _, to := range append(badTimes(), whole(1), whole(-most), whole(most)) {
					q := question{x, i - 5, to, f}
					if y := ask(c, q); !y.same(allBad(q)) {
						t.Fatal(c, q, y)
					}
				}
			}
		}
	}
}

// R2: nothing is kept from call to call.
func TestNothingIsKept(t *testing.T) {
	list := allClocks()
	asked := func(i int) answer {
		c := list[i*7%len(list)]
		all := questions(c)
		return ask(c, all[i%len(all)]).kept()
	}
	var before []answer
	for i := range 1000 {
		before = append(before, asked(i))
	}
	for i := len(before) - 1; i >= 0; i-- {
		if y := asked(i); !y.same(before[i]) {
			t.Fatal(i, y, before[i])
		}
	}
}

// fenced is a copy of a slice behind and before other values in the same memory, and that memory.
func fenced[T any](list []T, with T) ([]T, []T) {
	const fence = 20
	memory := slices.Repeat([]T{with}, fence+len(list)+fence)
	copy(memory[fence:], list)
	return memory[fence : fence+len(list)], memory
}

// inFences is the same clock in memory of its own, and that memory.
func inFences(c api.Clock) (api.Clock, api.Clock) {
	memory := c
	c.Field.Points, memory.Field.Points = fenced(c.Field.Points, pt(70, 6, 6))
	c.Certs.List, memory.Certs.List = fenced(c.Certs.List, held(5, 8, 9))
	c.Agenda.Slots.Uses, memory.Agenda.Slots.Uses = fenced(c.Agenda.Slots.Uses, 77)
	c.Agenda.Slots.Used, memory.Agenda.Slots.Used = fenced(c.Agenda.Slots.Used, true)
	c.Agenda.Slots.Free, memory.Agenda.Slots.Free = fenced(c.Agenda.Slots.Free, -7)
	c.Agenda.Heap, memory.Agenda.Heap = fenced(c.Agenda.Heap, event(whole(-99), 7, 7, 7))
	c.Agenda.Where, memory.Agenda.Where = fenced(c.Agenda.Where, -5)
	c.Due, memory.Due = fenced(c.Due, api.Due{Number: 6, Handle: api.Handle{Index: 6, Use: 6}})
	return c, memory
}

// R1 and R2: arguments are left as they were, with an error or without one, also the memory behind a slice, and what comes behind it changes no result.
func TestArgumentsAreLeft(t *testing.T) {
	forAll(func(c api.Clock, q question) {
		want := wanted(c, q)
		fence, memory := inFences(c)
		other, way := inFences(api.Clock{Field: q.f})
		before, wayBefore := clone(memory), clone(way)
		q.f = other.Field
		y := ask(fence, q)
		if !same(memory, before) || !same(way, wayBefore) {
			t.Fatal("changed", c, q)
		}
		if !y.same(want) {
			t.Fatal("not the same", c, q, y)
		}
	})
}

// fill writes over all of a slice, up to its capacity.
func fill[T any](list []T, with T) {
	list = list[:cap(list)]
	for i := range list {
		list[i] = with
	}
}

// spoil writes over all of a clock, up to the capacity of its slices.
func spoil(c api.Clock, n int, used bool) {
	fill(c.Field.Points, pt(n, int64(n), int64(n)))
	fill(c.Certs.List, held(n, n, n))
	fill(c.Agenda.Slots.Uses, n)
	fill(c.Agenda.Slots.Used, used)
	fill(c.Agenda.Slots.Free, n)
	fill(c.Agenda.Heap, event(whole(int64(n)), n, n, n))
	fill(c.Agenda.Where, n)
	fill(c.Due, api.Due{Number: n, Handle: api.Handle{Index: n, Use: n}})
}

// R2: results share no memory with arguments, nor with results of other calls.
func TestResultsAreNewMemory(t *testing.T) {
	forAll(func(c api.Clock, q question) {
		kept := ask(c, q).kept()
		fence, memory := inFences(c)
		other, way := inFences(api.Clock{Field: q.f})
		before, wayBefore := clone(memory), clone(way)
		q.f = other.Field
		first, second := ask(fence, q), ask(fence, q)
		for _, used := range []bool{false, true} {
			for _, r := range first.clocks() {
				spoil(*r, -9, used)
			}
			if !same(memory, before) || !same(way, wayBefore) {
				t.Fatal("a result is an argument", c, q)
			}
		}
		if !second.same(kept) {
			t.Fatal("two results share memory", c, q, second, kept)
		}
		for _, used := range []bool{false, true} {
			spoil(memory, -8, used)
			spoil(way, -8, used)
			if !second.same(kept) {
				t.Fatal("a result shares memory with an argument", c, q, second, kept)
			}
		}
	})
}

// wantApart fails if the slices of a clock that have elements of the same type share memory with each other, up to their capacity.
func wantApart(t *testing.T, c api.Clock) {
	t.Helper()
	lists := [][]int{c.Agenda.Slots.Uses, c.Agenda.Slots.Free, c.Agenda.Where}
	kept := [][]int{slices.Clone(lists[0]), slices.Clone(lists[1]), slices.Clone(lists[2])}
	for i, list := range lists {
		fill(list, -9)
		for k, other := range lists {
			if i != k && !slices.Equal(other, kept[k]) {
				t.Fatal("two slices share memory", i, k, kept)
			}
		}
		copy(list, kept[i])
	}
}

// R2: no two slices of a result share memory.
func TestSlicesAreApart(t *testing.T) {
	for _, c := range goodClocks() {
		for _, q := range questions(c) {
			y := ask(c, q)
			for _, r := range y.clocks() {
				wantApart(t, *r)
			}
		}
	}
}

// R2: no two new clocks share memory.
func TestNewIsNew(t *testing.T) {
	f := moving()
	a, _ := clock.New(f, whole(1))
	b, _ := clock.New(f, whole(1))
	spoil(a, -9, true)
	c, _ := clock.New(f, whole(1))
	if !same(b, bare(whole(1), moving())) || !same(c, b) {
		t.Error(b, c)
	}
	fill(f.Points, pt(-9, -9, -9))
	if !same(b, bare(whole(1), moving())) {
		t.Error(b)
	}
}

// R2: a clock that was made goes on as it was, whatever is made from it.
func TestMadeFromTheSame(t *testing.T) {
	for _, x := range []struct {
		c          api.Clock
		one, other api.Cert
	}{
		{example(), over(5, 1), over(5, 2)}, {gapped(), over(5, 1), over(7, 2)}, {of(whole(0), crowd(64), pairs(150)), over(0, 1), over(63, 62)},
	} {
		before := clone(x.c)
		base, _, _ := fail(t, x.c, whole(most))
		one, _ := certify(t, base, x.one)
		other, _ := certify(t, base, x.other)
		wantOne, _, _ := afterCertifying(base, x.one)
		wantOther, _, _ := afterCertifying(base, x.other)
		if !same(one, wantOne) || !same(other, wantOther) || !same(x.c, before) {
			t.Fatal(x, base, one, other)
		}
	}
}

// R3: a slice without elements is the same one, nil or not.
func TestNilAndEmpty(t *testing.T) {
	for _, now := range []api.Ratio{whole(1), frac(2, 2)} {
		for _, way := range [][]api.Point{nil, {}, make([]api.Point, 0, 9), moving().Points[:0]} {
			for _, list := range [][]api.Held{nil, {}, make([]api.Held, 0, 9)} {
				for _, heap := range [][]api.Event{nil, {}, make([]api.Event, 0, 9)} {
					for _, due := range [][]api.Due{nil, {}, make([]api.Due, 0, 9)} {
						c := bare(now, api.Field{Points: way})
						c.Certs.List, c.Agenda.Heap, c.Due = list, heap, due
						for _, q := range questions(c) {
							if y := ask(c, q); !y.same(wanted(bare(now, api.Field{}), q)) {
								t.Fatal(c, q, y)
							}
						}
					}
				}
			}
		}
	}
	full := of(whole(0), level(64), pairs(200))
	for _, free := range [][]int{nil, {}, make([]int, 0, 9)} {
		c := with(full, func(c *api.Clock) { c.Agenda.Slots.Free = free })
		for _, q := range questions(c) {
			if y := ask(c, q); !y.same(wanted(full, q)) {
				t.Fatal(c, q, y)
			}
		}
	}
}
