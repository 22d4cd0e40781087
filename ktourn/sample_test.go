package ktourn_test

import (
	"math"
	"slices"
	"testing"

	"peloton/api"
	"peloton/clock"
	"peloton/ktourn"
)

const (
	most  = math.MaxInt64
	least = math.MinInt64
	limit = api.MaxUses
	top   = api.MaxID
	coord = api.MaxCoord
	slots = 200
	// fine is a denominator of times just before and behind others.
	fine = 1<<61 - 1
)

// frac is a fraction as it is written, valid or not.
func frac(num, den int64) api.Ratio {
	return api.Ratio{Num: num, Den: den}
}

// whole is the fraction of a whole number.
func whole(n int64) api.Ratio {
	return frac(n, 1)
}

// pt is a point as it is written, valid or not.
func pt(id int, a, b int64) api.Point {
	return api.Point{ID: id, A: a, B: b}
}

// points is a field of points as they are written, valid or not.
func points(list ...api.Point) api.Field {
	return api.Field{Points: list}
}

// over says that high is ahead of low, valid or not.
func over(high, low int) api.Cert {
	return api.Cert{Low: low, High: high}
}

// held is a certificate with its number as they are written, valid or not.
func held(number, high, low int) api.Held {
	return api.Held{Number: number, Cert: over(high, low)}
}

// event is an event as it is written, valid or not.
func event(at api.Ratio, number, index, use int) api.Event {
	return api.Event{At: at, Number: number, Handle: api.Handle{Index: index, Use: use}}
}

func numbers(n ...int) []int { return n }

func certs(x ...api.Cert) []api.Cert { return x }

// empties are so many empty places.
func empties(n int) []int {
	return slices.Repeat(numbers(-1), n)
}

// moving are points of which 1 and 5 meet at 0, 1 and 2 at 2, and 2 and 5 at 6.
func moving() api.Field {
	return points(pt(1, 0, 2), pt(2, 6, -1), pt(5, 0, 0))
}

// chasing are points of which 0 meets 1 at 1, 2 at 2, and 3 at 3; at each time the others are in the order 3, 2, 1.
func chasing() api.Field {
	return points(pt(0, 0, 3), pt(1, 2, 1), pt(2, 4, 1), pt(3, 6, 1))
}

// many is a field of n points whose IDs start with the given one, where the point i has the way of i.
func many(n, first int, way func(i int64) (a, b int64)) api.Field {
	var f api.Field
	for i := range n {
		a, b := way(int64(i))
		f.Points = append(f.Points, pt(first+i, a, b))
	}
	return f
}

// crowd are n points of which i and k meet at i + k; before the first one meets another one those with the greater IDs are ahead.
func crowd(n int) api.Field {
	return many(n, 0, func(i int64) (a, b int64) { return i * i, -i })
}

// level are n points that all meet at 1; before that those with the greater IDs are ahead.
func level(n int) api.Field {
	return many(n, 0, func(i int64) (a, b int64) { return i, -i })
}

// standing are n points that never move; those with the lesser IDs are ahead.
func standing(n int) api.Field {
	return many(n, 0, func(i int64) (a, b int64) { return -i, 0 })
}

// twins are n points with the same course.
func twins(n int) api.Field {
	return many(n, 5, func(int64) (a, b int64) { return 7, -3 })
}

// without is a field without the point with an ID.
func without(f api.Field, id int) api.Field {
	return points(slices.DeleteFunc(slices.Clone(f.Points), func(p api.Point) bool { return p.ID == id })...)
}

func idsOf(f api.Field) []int {
	var list []int
	for _, p := range f.Points {
		list = append(list, p.ID)
	}
	return list
}

// clockOf is a clock with some certificates, which get the numbers from 0 on, made by layer 9.
func clockOf(now api.Ratio, f api.Field, edges ...api.Cert) api.Clock {
	c, e := clock.New(f, now)
	for _, x := range edges {
		if e == api.OK {
			c, _, e = clock.Certify(c, x)
		}
	}
	if e != api.OK {
		panic("a clock that cannot be made")
	}
	return c
}

// bracketOf is the bracket over some places with the winners at a time.
func bracketOf(now api.Ratio, f api.Field, places ...int) api.Bracket {
	return api.Bracket{Places: places, Wins: winners(places, f, now)}
}

// tournOf is a tournament over some places as they are written, with the winners at Now, and with its edges as the certificates of its clock, as far as there can be such ones; it is valid or not, and its clock is valid.
func tournOf(now api.Ratio, f api.Field, places ...int) api.KTourn {
	return tournWith(now, f, bracketOf(now, f, places...))
}

// tournWith is the same one with a bracket as it is written.
func tournWith(now api.Ratio, f api.Field, b api.Bracket) api.KTourn {
	var list []api.Cert
	for _, x := range edgesOf(b) {
		if isCert(x) && hasAll(f, certs(x)) && !slices.Contains(list, x) {
			list = append(list, x)
		}
	}
	return api.KTourn{Clock: clockOf(now, f, list...), Bracket: b}
}

// fresh is the agenda of a clock of which n slots were used once and are used still.
func fresh(n int) api.Agenda {
	a := api.Agenda{Slots: api.Slots{Uses: make([]int, slots), Used: make([]bool, slots)}, Where: empties(slots)}
	for i := slots - 1; i >= n; i-- {
		a.Slots.Free = append(a.Slots.Free, i)
	}
	for i := range n {
		a.Slots.Uses[i], a.Slots.Used[i], a.Where[i] = 1, true, i
	}
	return a
}

// early is the tournament of the chapter's examples at 0, as all of it is.
func early() api.KTourn {
	k := api.KTourn{Bracket: api.Bracket{Places: numbers(1, 2, 5, -1), Wins: numbers(2, 2, 5)}}
	k.Clock = api.Clock{Now: whole(0), Field: moving(), Agenda: fresh(2)}
	// The match of the root comes first, and fails later than the other one.
	k.Clock.Certs = api.Certs{Next: 2, List: []api.Held{held(0, 2, 5), held(1, 2, 1)}}
	k.Clock.Agenda.Heap = []api.Event{event(whole(2), 1, 1, 1), event(whole(6), 0, 0, 1)}
	k.Clock.Agenda.Where[0], k.Clock.Agenda.Where[1] = 1, 0
	k.Clock.Due = []api.Due{{Number: 0, Handle: api.Handle{Index: 0, Use: 1}}, {Number: 1, Handle: api.Handle{Index: 1, Use: 1}}}
	return k
}

// late is the same tournament after an advance to 2, as all of it is.
func late() api.KTourn {
	k := api.KTourn{Bracket: api.Bracket{Places: numbers(1, 2, 5, -1), Wins: numbers(1, 1, 5)}}
	k.Clock = api.Clock{Now: whole(2), Field: moving(), Agenda: fresh(0)}
	k.Clock.Certs = api.Certs{Next: 4, List: []api.Held{held(2, 1, 5), held(3, 1, 2)}}
	s := k.Clock.Agenda.Slots
	s.Uses[0], s.Uses[1] = 1, 1
	// The slot of the event that happened was given back first, and then that of the certificate that was retired.
	s.Free[198], s.Free[199] = 1, 0
	return k
}

// blocked is a clock whose next free slot was used MaxUses times, while others are free.
func blocked(c api.Clock) api.Clock {
	c = cloneClock(c)
	free := c.Agenda.Slots.Free
	c.Agenda.Slots.Uses[free[len(free)-1]] = limit
	return c
}

// usedUp is a clock in which the slot of the event with a number was used MaxUses times.
func usedUp(c api.Clock, number int) api.Clock {
	c = cloneClock(c)
	for i, d := range c.Due {
		if d.Number == number {
			at := d.Handle.Index
			c.Agenda.Slots.Uses[at], c.Due[i].Handle.Use = limit, limit
			c.Agenda.Heap[c.Agenda.Where[at]].Handle.Use = limit
		}
	}
	return c
}

// counted is a clock that has given out all numbers but so many.
func counted(c api.Clock, left int) api.Clock {
	c = cloneClock(c)
	c.Certs.Next = limit - left
	return c
}

// clocked is a tournament with another clock.
func clocked(k api.KTourn, c api.Clock) api.KTourn {
	return api.KTourn{Clock: c, Bracket: cloneBracket(k.Bracket)}
}

func sameClock(a, b api.Clock) bool {
	return a.Now == b.Now && slices.Equal(a.Field.Points, b.Field.Points) && a.Certs.Next == b.Certs.Next && slices.Equal(a.Certs.List, b.Certs.List) &&
		sameAgenda(a.Agenda, b.Agenda) && slices.Equal(a.Due, b.Due)
}

func sameAgenda(a, b api.Agenda) bool {
	return slices.Equal(a.Slots.Uses, b.Slots.Uses) && slices.Equal(a.Slots.Used, b.Slots.Used) && slices.Equal(a.Slots.Free, b.Slots.Free) &&
		slices.Equal(a.Heap, b.Heap) && slices.Equal(a.Where, b.Where)
}

func sameBracket(a, b api.Bracket) bool {
	return slices.Equal(a.Places, b.Places) && slices.Equal(a.Wins, b.Wins)
}

func same(a, b api.KTourn) bool {
	return sameBracket(a.Bracket, b.Bracket) && sameClock(a.Clock, b.Clock)
}

func cloneClock(c api.Clock) api.Clock {
	c.Field.Points = slices.Clone(c.Field.Points)
	c.Certs.List = slices.Clone(c.Certs.List)
	c.Agenda.Slots.Uses = slices.Clone(c.Agenda.Slots.Uses)
	c.Agenda.Slots.Used = slices.Clone(c.Agenda.Slots.Used)
	c.Agenda.Slots.Free = slices.Clone(c.Agenda.Slots.Free)
	c.Agenda.Heap = slices.Clone(c.Agenda.Heap)
	c.Agenda.Where = slices.Clone(c.Agenda.Where)
	c.Due = slices.Clone(c.Due)
	return c
}

func cloneBracket(b api.Bracket) api.Bracket {
	return api.Bracket{Places: slices.Clone(b.Places), Wins: slices.Clone(b.Wins)}
}

func clone(k api.KTourn) api.KTourn {
	return api.KTourn{Clock: cloneClock(k.Clock), Bracket: cloneBracket(k.Bracket)}
}

// with is a tournament after a change of a copy of it.
func with(k api.KTourn, change func(k *api.KTourn)) api.KTourn {
	k = clone(k)
	change(&k)
	return k
}

// at is a tournament with another Now, of which all else is the same.
func at(k api.KTourn, now api.Ratio) api.KTourn {
	return with(k, func(k *api.KTourn) { k.Clock.Now = now })
}

// enough fails if something was seen so seldom that it was hardly tested.
func enough(t *testing.T, seen int) {
	t.Helper()
	if seen < 1000 {
		t.Error("seen only", seen)
	}
}

// build is Build of a field and a time that are valid.
func build(t *testing.T, f api.Field, at api.Ratio) api.KTourn {
	t.Helper()
	k, e := ktourn.Build(f, at)
	if e != api.OK {
		t.Fatal(f, at, e)
	}
	return k
}

// advance is Advance to a time that is not before Now, for which there is room.
func advance(t *testing.T, k api.KTourn, to api.Ratio) (api.KTourn, []api.Cert) {
	t.Helper()
	r, list, e := ktourn.Advance(k, to)
	if e != api.OK {
		t.Fatal(k, to, e)
	}
	return r, list
}
