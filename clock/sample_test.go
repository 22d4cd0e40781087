package clock_test

import (
	"math"
	"slices"
	"testing"

	"peloton/agenda"
	"peloton/api"
	"peloton/clock"
)

const (
	most  = math.MaxInt64
	least = math.MinInt64
	limit = api.MaxUses
	top   = api.MaxID
	coord = api.MaxCoord
	slots = 200
	// fine is a denominator of times just before and behind others.
	fine = 1<<61 - 1
)

// frac is a fraction as it is written, valid or not.
func frac(num, den int64) api.Ratio {
	return api.Ratio{Num: num, Den: den}
}

// whole is the fraction of a whole number.
func whole(n int64) api.Ratio {
	return frac(n, 1)
}

// pt is a point as it is written, valid or not.
func pt(id int, a, b int64) api.Point {
	return api.Point{ID: id, A: a, B: b}
}

// points is a field of points as they are written, valid or not.
func points(list ...api.Point) api.Field {
	return api.Field{Points: list}
}

// over says that high is ahead of low, valid or not.
func over(high, low int) api.Cert {
	return api.Cert{Low: low, High: high}
}

// held is a certificate with its number as they are written, valid or not.
func held(number, high, low int) api.Held {
	return api.Held{Number: number, Cert: over(high, low)}
}

// certs is a store as it is written, valid or not.
func certs(next int, list ...api.Held) api.Certs {
	return api.Certs{Next: next, List: list}
}

// event is an event as it is written, valid or not.
func event(at api.Ratio, number, index, use int) api.Event {
	return api.Event{At: at, Number: number, Handle: api.Handle{Index: index, Use: use}}
}

func numbers(n ...int) []int { return n }

// moving are points of which 1 and 5 meet at 0, 1 and 2 at 2, and 2 and 5 at 6.
func moving() api.Field {
	return points(pt(1, 0, 2), pt(2, 6, -1), pt(5, 0, 0))
}

// many is a field of n points whose IDs start with the given one, where the point i has the way of i.
func many(n, first int, way func(i int64) (a, b int64)) api.Field {
	var f api.Field
	for i := range n {
		a, b := way(int64(i))
		f.Points = append(f.Points, pt(first+i, a, b))
	}
	return f
}

// crowd are n points of which i and k meet at i + k; before the first one meets another one those with the greater IDs are ahead.
func crowd(n int) api.Field {
	return many(n, 0, func(i int64) (a, b int64) { return i * i, -i })
}

// level are n points that all meet at 1; before that those with the greater IDs are ahead.
func level(n int) api.Field {
	return many(n, 0, func(i int64) (a, b int64) { return i, -i })
}

// pairs are the first n certificates that say that a point with a greater ID is ahead.
func pairs(n int) api.Certs {
	s := certs(n)
	for i := 1; len(s.List) < n; i++ {
		for k := 0; k < i && len(s.List) < n; k++ {
			s.List = append(s.List, held(len(s.List), i, k))
		}
	}
	return s
}

// turned are the same certificates with Low and High exchanged.
func turned(s api.Certs) api.Certs {
	r := certs(s.Next)
	for _, h := range s.List {
		r.List = append(r.List, held(h.Number, h.Cert.Low, h.Cert.High))
	}
	return r
}

// fresh is an agenda of 200 slots that were never used.
func fresh() api.Agenda {
	a := api.Agenda{Slots: api.Slots{Uses: make([]int, slots), Used: make([]bool, slots)}, Where: slices.Repeat(numbers(-1), slots)}
	for i := slots - 1; i >= 0; i-- {
		a.Slots.Free = append(a.Slots.Free, i)
	}
	return a
}

// bare is a clock without certificates.
func bare(now api.Ratio, f api.Field) api.Clock {
	return api.Clock{Now: now, Field: f, Agenda: fresh()}
}

// of is a clock with certificates, whose events were pushed in the order of their numbers into slots that were never used.
func of(now api.Ratio, f api.Field, s api.Certs) api.Clock {
	c := bare(now, f)
	c.Certs = s
	for _, h := range s.List {
		if at, fails := failure(f, h.Cert, now); fails {
			c = pushed(c, at, h.Number)
		}
	}
	return c
}

// pushed is a clock with an event more, which is in Due, whether that is right or not.
func pushed(c api.Clock, at api.Ratio, number int) api.Clock {
	a, h, e := agenda.Push(c.Agenda, at, number)
	if e != api.OK {
		panic("an event that cannot be pushed")
	}
	c.Agenda = a
	c.Due = append(slices.Clone(c.Due), api.Due{Number: number, Handle: h})
	slices.SortStableFunc(c.Due, func(x, y api.Due) int { return x.Number - y.Number })
	return c
}

// example is the clock of the chapter's examples, as all of it is.
func example() api.Clock {
	c := bare(whole(1), moving())
	c.Certs = certs(3, held(0, 2, 1), held(1, 2, 5), held(2, 1, 5))
	c.Agenda.Heap = []api.Event{event(whole(2), 0, 0, 1), event(whole(6), 1, 1, 1)}
	for i := range 2 {
		c.Agenda.Slots.Uses[i], c.Agenda.Slots.Used[i], c.Agenda.Where[i] = 1, true, i
	}
	c.Agenda.Slots.Free = c.Agenda.Slots.Free[:198]
	c.Due = []api.Due{{Number: 0, Handle: api.Handle{Index: 0, Use: 1}}, {Number: 1, Handle: api.Handle{Index: 1, Use: 1}}}
	return c
}

// gapped is a clock whose numbers are not all there: 3 fails at 2, 4 and 11 now, 9 at 6, 15 and 16 never.
func gapped() api.Clock {
	f := points(append(moving().Points, pt(7, 5, -1))...)
	return of(whole(1), f, certs(20, held(3, 2, 1), held(4, 1, 2), held(9, 2, 5), held(11, 5, 2), held(15, 1, 5), held(16, 2, 7)))
}

// worn is a clock whose slots were used before, by the same certificates among others.
func worn(c api.Clock, m *mixer) api.Clock {
	c.Agenda = m.agenda(c.Agenda.Heap)
	c.Due = dueOf(c)
	return c
}

// blocked is a clock whose next free slot was used MaxUses times, while others are free.
func blocked(c api.Clock) api.Clock {
	c = clone(c)
	free := c.Agenda.Slots.Free
	c.Agenda.Slots.Uses[free[len(free)-1]] = limit
	return c
}

func same(a, b api.Clock) bool {
	return a.Now == b.Now && slices.Equal(a.Field.Points, b.Field.Points) && a.Certs.Next == b.Certs.Next && slices.Equal(a.Certs.List, b.Certs.List) &&
		sameAgenda(a.Agenda, b.Agenda) && slices.Equal(a.Due, b.Due)
}

func sameAgenda(a, b api.Agenda) bool {
	return slices.Equal(a.Slots.Uses, b.Slots.Uses) && slices.Equal(a.Slots.Used, b.Slots.Used) && slices.Equal(a.Slots.Free, b.Slots.Free) &&
		slices.Equal(a.Heap, b.Heap) && slices.Equal(a.Where, b.Where)
}

func clone(c api.Clock) api.Clock {
	c.Field.Points = slices.Clone(c.Field.Points)
	c.Certs.List = slices.Clone(c.Certs.List)
	c.Agenda.Slots.Uses = slices.Clone(c.Agenda.Slots.Uses)
	c.Agenda.Slots.Used = slices.Clone(c.Agenda.Slots.Used)
	c.Agenda.Slots.Free = slices.Clone(c.Agenda.Slots.Free)
	c.Agenda.Heap = slices.Clone(c.Agenda.Heap)
	c.Agenda.Where = slices.Clone(c.Agenda.Where)
	c.Due = slices.Clone(c.Due)
	return c
}

// with is a clock after a change of a copy of it.
func with(c api.Clock, change func(c *api.Clock)) api.Clock {
	c = clone(c)
	change(&c)
	return c
}

// enough fails if something was seen so seldom that it was hardly tested.
func enough(t *testing.T, seen int) {
	t.Helper()
	if seen < 1000 {
		t.Error("seen only", seen)
	}
}

// certify is Certify of a certificate for which there is room.
func certify(t *testing.T, c api.Clock, x api.Cert) (api.Clock, int) {
	t.Helper()
	r, n, e := clock.Certify(c, x)
	if e != api.OK {
		t.Fatal(c, x, e)
	}
	return r, n
}

// retire is Retire of a number that is there.
func retire(t *testing.T, c api.Clock, number int) api.Clock {
	t.Helper()
	r, e := clock.Retire(c, number)
	if e != api.OK {
		t.Fatal(c, number, e)
	}
	return r
}

// fail is Fail up to a time up to which a certificate is due.
func fail(t *testing.T, c api.Clock, to api.Ratio) (api.Clock, api.Event, api.Cert) {
	t.Helper()
	r, y, x, e := clock.Fail(c, to)
	if e != api.OK {
		t.Fatal(c, to, e)
	}
	return r, y, x
}

// move is Move to a time up to which no certificate is due.
func move(t *testing.T, c api.Clock, to api.Ratio) api.Clock {
	t.Helper()
	r, e := clock.Move(c, to)
	if e != api.OK {
		t.Fatal(c, to, e)
	}
	return r
}

// alter is Alter to a field with which all events can be pushed.
func alter(t *testing.T, c api.Clock, f api.Field) api.Clock {
	t.Helper()
	r, e := clock.Alter(c, f)
	if e != api.OK {
		t.Fatal(c, f, e)
	}
	return r
}
