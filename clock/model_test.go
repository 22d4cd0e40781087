package clock_test

import (
	"cmp"
	"math/big"
	"slices"

	"peloton/agenda"
	"peloton/api"
	"peloton/cert"
)

// The functions here follow the definitions and the promises word by word: times and places are those of math/big, and Due is found anew from Certs and Agenda, instead of going along. What is done with an agenda or a store is done by layers 7 and 8.

// isTime follows the definition of a valid fraction.
func isTime(r api.Ratio) bool {
	if r.Den < 1 || r.Num == least {
		return false
	}
	return big.NewRat(r.Num, r.Den).Denom().Cmp(big.NewInt(r.Den)) == 0
}

func exact(r api.Ratio) *big.Rat {
	return big.NewRat(r.Num, r.Den)
}

func compare(a, b api.Ratio) int {
	return exact(a).Cmp(exact(b))
}

// fieldError is the error of a field: the one that is named first.
func fieldError(f api.Field) api.Errno {
	if len(f.Points) > 64 {
		return api.ErrMany
	}
	for _, p := range f.Points {
		if p.ID < 0 || p.ID > 65535 || max(p.A, p.B) > 1<<20 || min(p.A, p.B) < -1<<20 {
			return api.ErrBad
		}
	}
	for i, p := range f.Points {
		if i > 0 && f.Points[i-1].ID >= p.ID {
			return api.ErrOrder
		}
	}
	return api.OK
}

// point is the point with an ID, if it is there.
func point(f api.Field, id int) (api.Point, bool) {
	for _, p := range f.Points {
		if p.ID == id {
			return p, true
		}
	}
	return api.Point{}, false
}

// hasAll reports whether a field has all points that certificates name.
func hasAll(f api.Field, list ...api.Held) bool {
	for _, h := range list {
		for _, id := range []int{h.Cert.Low, h.Cert.High} {
			if _, ok := point(f, id); !ok {
				return false
			}
		}
	}
	return true
}

// place is where a point is at a time.
func place(p api.Point, t api.Ratio) *big.Rat {
	way := new(big.Rat).Mul(big.NewRat(p.B, 1), exact(t))
	return way.Add(way, big.NewRat(p.A, 1))
}

// isAhead reports whether p is ahead of q: by its place, then by its speed, then by its ID.
func isAhead(p, q api.Point, t api.Ratio) bool {
	return cmp.Or(place(q, t).Cmp(place(p, t)), cmp.Compare(q.B, p.B), cmp.Compare(p.ID, q.ID)) < 0
}

// meeting is when two points with different speeds are at the same place.
func meeting(p, q api.Point) api.Ratio {
	t := big.NewRat(q.A-p.A, p.B-q.B)
	return frac(t.Num().Int64(), t.Denom().Int64())
}

// failure is the failure time of a certificate, from a time on, if there is one; the field has both points.
func failure(f api.Field, x api.Cert, now api.Ratio) (api.Ratio, bool) {
	high, _ := point(f, x.High)
	low, _ := point(f, x.Low)
	if isAhead(low, high, now) {
		return now, true
	}
	if low.B > high.B {
		return meeting(high, low), true
	}
	return api.Ratio{}, false
}

// eventOf is the event of an agenda with a number, if there is one.
func eventOf(a api.Agenda, number int) (api.Event, bool) {
	for _, x := range a.Heap {
		if x.Number == number {
			return x, true
		}
	}
	return api.Event{}, false
}

// dueOf is what Due has for the certificates of a clock that have an event, which may be at any time.
func dueOf(c api.Clock) []api.Due {
	var list []api.Due
	for _, h := range c.Certs.List {
		if x, ok := eventOf(c.Agenda, h.Number); ok {
			list = append(list, api.Due{Number: h.Number, Handle: x.Handle})
		}
	}
	return list
}

// isValid follows the definition of a valid clock.
func isValid(c api.Clock) bool {
	if !isTime(c.Now) || fieldError(c.Field) != api.OK || cert.Check(c.Certs) != api.OK || !hasAll(c.Field, c.Certs.List...) {
		return false
	}
	if agenda.Check(c.Agenda) != api.OK || len(c.Agenda.Slots.Uses) != 200 {
		return false
	}
	events := 0
	for _, h := range c.Certs.List {
		at, fails := failure(c.Field, h.Cert, c.Now)
		x, ok := eventOf(c.Agenda, h.Number)
		if fails != ok || x.At != at {
			return false
		}
		if ok {
			events++
		}
	}
	return events == len(c.Agenda.Heap) && slices.Equal(c.Due, dueOf(c))
}

// isCert follows the definition of a valid certificate.
func isCert(x api.Cert) bool {
	return min(x.Low, x.High) >= 0 && max(x.Low, x.High) <= 65535 && x.Low != x.High
}

// made is what New returns.
func made(f api.Field, now api.Ratio) (api.Clock, api.Errno) {
	if e := fieldError(f); e != api.OK {
		return api.Clock{}, e
	}
	if !isTime(now) {
		return api.Clock{}, api.ErrBad
	}
	return clone(bare(now, f)), api.OK
}

// afterCertifying is what Certify returns for a valid clock.
func afterCertifying(c api.Clock, x api.Cert) (api.Clock, int, api.Errno) {
	if !isCert(x) {
		return api.Clock{}, 0, api.ErrBad
	}
	if !hasAll(c.Field, held(0, x.High, x.Low)) {
		return api.Clock{}, 0, api.ErrNone
	}
	c = clone(c)
	s, n, e := cert.Add(c.Certs, x)
	if e != api.OK {
		return api.Clock{}, 0, e
	}
	c.Certs = s
	if at, fails := failure(c.Field, x, c.Now); fails {
		c.Agenda, _, e = agenda.Push(c.Agenda, at, n)
		if e != api.OK {
			return api.Clock{}, 0, e
		}
	}
	c.Due = dueOf(c)
	return c, n, api.OK
}

// afterRetiring is what Retire returns for a valid clock.
func afterRetiring(c api.Clock, number int) (api.Clock, api.Errno) {
	c = clone(c)
	s, _, e := cert.Remove(c.Certs, number)
	if e != api.OK {
		return api.Clock{}, api.ErrNone
	}
	c.Certs = s
	if x, ok := eventOf(c.Agenda, number); ok {
		c.Agenda, _, _ = agenda.Remove(c.Agenda, x.Handle)
	}
	c.Due = dueOf(c)
	return c, api.OK
}

// first is what Next returns for a valid clock.
func first(c api.Clock) (api.Event, api.Errno) {
	if len(c.Agenda.Heap) == 0 {
		return api.Event{}, api.ErrEmpty
	}
	return c.Agenda.Heap[0], api.OK
}

// timeError is the error of a time to which a valid clock should go.
func timeError(c api.Clock, to api.Ratio) api.Errno {
	if !isTime(to) {
		return api.ErrBad
	}
	if compare(to, c.Now) < 0 {
		return api.ErrPast
	}
	return api.OK
}

// dueUpTo are the certificates of a valid clock that are due up to a time: the one that fails first comes first, and of those that fail at the same time the one with the least number.
func dueUpTo(c api.Clock, to api.Ratio) []api.Event {
	var list []api.Event
	for _, h := range c.Certs.List {
		if at, fails := failure(c.Field, h.Cert, c.Now); fails && compare(at, to) <= 0 {
			list = append(list, event(at, h.Number, 0, 0))
		}
	}
	slices.SortStableFunc(list, func(x, y api.Event) int { return compare(x.At, y.At) })
	return list
}

// afterFailing is what Fail returns for a valid clock.
func afterFailing(c api.Clock, to api.Ratio) (api.Clock, api.Event, api.Cert, api.Errno) {
	if e := timeError(c, to); e != api.OK {
		return api.Clock{}, api.Event{}, api.Cert{}, e
	}
	list := dueUpTo(c, to)
	if len(list) == 0 {
		return api.Clock{}, api.Event{}, api.Cert{}, api.ErrNone
	}
	y, _ := eventOf(c.Agenda, list[0].Number)
	x, _ := cert.Get(c.Certs, y.Number)
	c, _ = afterRetiring(c, y.Number)
	c.Now = list[0].At
	return c, y, x, api.OK
}

// afterMoving is what Move returns for a valid clock.
func afterMoving(c api.Clock, to api.Ratio) (api.Clock, api.Errno) {
	if e := timeError(c, to); e != api.OK {
		return api.Clock{}, e
	}
	if len(dueUpTo(c, to)) > 0 {
		return api.Clock{}, api.ErrState
	}
	c = clone(c)
	c.Now = to
	return c, api.OK
}

// afterAltering is what Alter returns for a valid clock.
func afterAltering(c api.Clock, f api.Field) (api.Clock, api.Errno) {
	if e := fieldError(f); e != api.OK {
		return api.Clock{}, e
	}
	if !hasAll(f, c.Certs.List...) {
		return api.Clock{}, api.ErrNone
	}
	c = clone(c)
	c.Field.Points = slices.Clone(f.Points)
	for _, h := range c.Certs.List {
		at, fails := failure(f, h.Cert, c.Now)
		x, had := eventOf(c.Agenda, h.Number)
		var e api.Errno
		switch {
		case fails && had:
			c.Agenda, e = agenda.Rekey(c.Agenda, x.Handle, at)
		case fails:
			c.Agenda, _, e = agenda.Push(c.Agenda, at, h.Number)
		case had:
			c.Agenda, _, e = agenda.Remove(c.Agenda, x.Handle)
		}
		if e != api.OK {
			return api.Clock{}, e
		}
	}
	c.Due = dueOf(c)
	return c, api.OK
}
