package hedit_test

import (
	"cmp"
	"math"
	"slices"
	"testing"

	"peloton/api"
	"peloton/clock"
	"peloton/hedit"
	"peloton/kheap"
)

const (
	most  = math.MaxInt64
	least = math.MinInt64
	limit = api.MaxUses
	top   = api.MaxID
	coord = api.MaxCoord
	slots = 200
	// fine is a denominator of times just before and behind others.
	fine = 1<<61 - 1
)

// frac is a fraction as it is written, valid or not.
func frac(num, den int64) api.Ratio {
	return api.Ratio{Num: num, Den: den}
}

// whole is the fraction of a whole number.
func whole(n int64) api.Ratio {
	return frac(n, 1)
}

// pt is a point as it is written, valid or not.
func pt(id int, a, b int64) api.Point {
	return api.Point{ID: id, A: a, B: b}
}

// points is a field of points as they are written, valid or not.
func points(list ...api.Point) api.Field {
	return api.Field{Points: list}
}

// over says that high is ahead of low, valid or not.
func over(high, low int) api.Cert {
	return api.Cert{Low: low, High: high}
}

// held is a certificate with its number as they are written, valid or not.
func held(number, high, low int) api.Held {
	return api.Held{Number: number, Cert: over(high, low)}
}

// event is an event as it is written, valid or not.
func event(at api.Ratio, number, index, use int) api.Event {
	return api.Event{At: at, Number: number, Handle: api.Handle{Index: index, Use: use}}
}

func numbers(n ...int) []int { return n }

// moving are points of which 1 and 5 meet at 0, 1 and 2 at 2, and 2 and 5 at 6.
func moving() api.Field {
	return points(pt(1, 0, 2), pt(2, 6, -1), pt(5, 0, 0))
}

// many is a field of n points whose IDs start with the given one, where the point i has the way of i.
func many(n, first int, way func(i int64) (a, b int64)) api.Field {
	var f api.Field
	for i := range n {
		a, b := way(int64(i))
		f.Points = append(f.Points, pt(first+i, a, b))
	}
	return f
}

// crowd are n points of which i and k meet at i + k; before the first one meets another one those with the greater IDs are ahead.
func crowd(n int) api.Field {
	return many(n, 0, func(i int64) (a, b int64) { return i * i, -i })
}

// level are n points that all meet at 1; before that those with the greater IDs are ahead.
func level(n int) api.Field {
	return many(n, 0, func(i int64) (a, b int64) { return i, -i })
}

// standing are n points that never move; those with the lesser IDs are ahead.
func standing(n int) api.Field {
	return many(n, 0, func(i int64) (a, b int64) { return -i, 0 })
}

// withPoint is a field with a point more, or with another one in the place of the one with its ID.
func withPoint(f api.Field, p api.Point) api.Field {
	list := append(without(f, p.ID).Points, p)
	slices.SortFunc(list, func(p, q api.Point) int { return cmp.Compare(p.ID, q.ID) })
	return points(list...)
}

// without is a field without the point with an ID.
func without(f api.Field, id int) api.Field {
	return points(slices.DeleteFunc(slices.Clone(f.Points), func(p api.Point) bool { return p.ID == id })...)
}

func idsOf(f api.Field) []int {
	var list []int
	for _, p := range f.Points {
		list = append(list, p.ID)
	}
	return list
}

// clockOf is a clock with some certificates, which get the numbers from 0 on, made by layer 9.
func clockOf(now api.Ratio, f api.Field, edges ...api.Cert) api.Clock {
	c, e := clock.New(f, now)
	for _, x := range edges {
		if e == api.OK {
			c, _, e = clock.Certify(c, x)
		}
	}
	if e != api.OK {
		panic("a clock that cannot be made")
	}
	return c
}

// heapOf is a heap as it is written, with its edges as the certificates of its clock, valid or not; only the clock is valid.
func heapOf(now api.Ratio, f api.Field, heap ...int) api.KHeap {
	return api.KHeap{Clock: clockOf(now, f, edgesOf(heap)...), Heap: heap}
}

// fresh is the agenda of a clock of which n slots were used once and are used still.
func fresh(n int) api.Agenda {
	a := api.Agenda{Slots: api.Slots{Uses: make([]int, slots), Used: make([]bool, slots)}, Where: slices.Repeat(numbers(-1), slots)}
	for i := slots - 1; i >= n; i-- {
		a.Slots.Free = append(a.Slots.Free, i)
	}
	for i := range n {
		a.Slots.Uses[i], a.Slots.Used[i], a.Where[i] = 1, true, i
	}
	return a
}

// early is the heap of the chapter's examples at 0, as all of it is.
func early() api.KHeap {
	k := api.KHeap{Heap: numbers(2, 1, 5)}
	k.Clock = api.Clock{Now: whole(0), Field: moving(), Agenda: fresh(2)}
	k.Clock.Certs = api.Certs{Next: 2, List: []api.Held{held(0, 2, 1), held(1, 2, 5)}}
	k.Clock.Agenda.Heap = []api.Event{event(whole(2), 0, 0, 1), event(whole(6), 1, 1, 1)}
	k.Clock.Due = []api.Due{{Number: 0, Handle: api.Handle{Index: 0, Use: 1}}, {Number: 1, Handle: api.Handle{Index: 1, Use: 1}}}
	return k
}

// late is the same heap after an advance to 2, as all of it is.
func late() api.KHeap {
	k := api.KHeap{Heap: numbers(1, 2, 5)}
	k.Clock = api.Clock{Now: whole(2), Field: moving(), Agenda: fresh(0)}
	k.Clock.Certs = api.Certs{Next: 4, List: []api.Held{held(2, 1, 2), held(3, 1, 5)}}
	s := k.Clock.Agenda.Slots
	s.Uses[0], s.Uses[1] = 1, 1
	// The slot of the event that happened was given back first, and then that of the certificate that was retired.
	s.Free[198], s.Free[199] = 0, 1
	return k
}

// blocked is a clock whose next free slot was used MaxUses times, while others are free.
func blocked(c api.Clock) api.Clock {
	c = cloneClock(c)
	free := c.Agenda.Slots.Free
	c.Agenda.Slots.Uses[free[len(free)-1]] = limit
	return c
}

// usedUp is a clock in which the slot of the event with a number was used MaxUses times.
func usedUp(c api.Clock, number int) api.Clock {
	c = cloneClock(c)
	for i, d := range c.Due {
		if d.Number == number {
			at := d.Handle.Index
			c.Agenda.Slots.Uses[at], c.Due[i].Handle.Use = limit, limit
			c.Agenda.Heap[c.Agenda.Where[at]].Handle.Use = limit
		}
	}
	return c
}

// counted is a clock that has given out all numbers but so many.
func counted(c api.Clock, left int) api.Clock {
	c = cloneClock(c)
	c.Certs.Next = limit - left
	return c
}

// clocked is a heap with another clock.
func clocked(k api.KHeap, c api.Clock) api.KHeap {
	return api.KHeap{Clock: c, Heap: slices.Clone(k.Heap)}
}

func sameClock(a, b api.Clock) bool {
	return a.Now == b.Now && slices.Equal(a.Field.Points, b.Field.Points) && a.Certs.Next == b.Certs.Next && slices.Equal(a.Certs.List, b.Certs.List) &&
		sameAgenda(a.Agenda, b.Agenda) && slices.Equal(a.Due, b.Due)
}

func sameAgenda(a, b api.Agenda) bool {
	return slices.Equal(a.Slots.Uses, b.Slots.Uses) && slices.Equal(a.Slots.Used, b.Slots.Used) && slices.Equal(a.Slots.Free, b.Slots.Free) &&
		slices.Equal(a.Heap, b.Heap) && slices.Equal(a.Where, b.Where)
}

func same(a, b api.KHeap) bool {
	return slices.Equal(a.Heap, b.Heap) && sameClock(a.Clock, b.Clock)
}

func cloneClock(c api.Clock) api.Clock {
	c.Field.Points = slices.Clone(c.Field.Points)
	c.Certs.List = slices.Clone(c.Certs.List)
	c.Agenda.Slots.Uses = slices.Clone(c.Agenda.Slots.Uses)
	c.Agenda.Slots.Used = slices.Clone(c.Agenda.Slots.Used)
	c.Agenda.Slots.Free = slices.Clone(c.Agenda.Slots.Free)
	c.Agenda.Heap = slices.Clone(c.Agenda.Heap)
	c.Agenda.Where = slices.Clone(c.Agenda.Where)
	c.Due = slices.Clone(c.Due)
	return c
}

func clone(k api.KHeap) api.KHeap {
	return api.KHeap{Clock: cloneClock(k.Clock), Heap: slices.Clone(k.Heap)}
}

// with is a heap after a change of a copy of it.
func with(k api.KHeap, change func(k *api.KHeap)) api.KHeap {
	k = clone(k)
	change(&k)
	return k
}

// enough fails if something was seen so seldom that it was hardly tested.
func enough(t *testing.T, seen int) {
	t.Helper()
	if seen < 1000 {
		t.Error("seen only", seen)
	}
}

// build is Build of a field and a time that are valid.
func build(t *testing.T, f api.Field, at api.Ratio) api.KHeap {
	t.Helper()
	k, e := kheap.Build(f, at)
	if e != api.OK {
		t.Fatal(f, at, e)
	}
	return k
}

// advance is Advance to a time that is not before Now, for which there is room.
func advance(t *testing.T, k api.KHeap, to api.Ratio) (api.KHeap, []api.Cert) {
	t.Helper()
	r, list, e := kheap.Advance(k, to)
	if e != api.OK {
		t.Fatal(k, to, e)
	}
	return r, list
}

// toPut is Put of a point that can be put in.
func toPut(t *testing.T, k api.KHeap, p api.Point) api.KHeap {
	t.Helper()
	r, e := hedit.Put(k, p)
	if e != api.OK {
		t.Fatal(k, p, e)
	}
	return r
}

// toTake is Take of a point that can be taken out.
func toTake(t *testing.T, k api.KHeap, id int) api.KHeap {
	t.Helper()
	r, e := hedit.Take(k, id)
	if e != api.OK {
		t.Fatal(k, id, e)
	}
	return r
}

// toChange is Change to a point to which it can be changed.
func toChange(t *testing.T, k api.KHeap, p api.Point) api.KHeap {
	t.Helper()
	r, e := hedit.Change(k, p)
	if e != api.OK {
		t.Fatal(k, p, e)
	}
	return r
}

// stand is a heap at 0 of points that never move: the place i has the ID 10 (i + 1), and the height that is given for it.
func stand(heights ...int64) api.KHeap {
	var f api.Field
	for i, a := range heights {
		f.Points = append(f.Points, pt(10*(i+1), a, 0))
	}
	return heapOf(whole(0), f, idsOf(f)...)
}

// four is a heap at 0 of which 2 is above 0: 0 meets 1 at 1, 2 at 2, and 3 at 3.
func four() api.KHeap {
	return heapOf(whole(0), points(pt(0, 0, 3), pt(1, 2, 1), pt(2, 4, 1), pt(3, 6, 1)), 3, 2, 1, 0)
}

// wantIDs fails unless a heap is valid, has the IDs that are given, and has Now and just the points that another one had, but for those with an ID.
func wantIDs(t *testing.T, k, was api.KHeap, but int, ids []int) {
	t.Helper()
	if !slices.Equal(k.Heap, ids) || !isValid(k) || k.Clock.Now != was.Clock.Now {
		t.Fatal(k, was, ids)
	}
	if !slices.Equal(without(k.Clock.Field, but).Points, without(was.Clock.Field, but).Points) {
		t.Fatal("another field", k, was)
	}
}
