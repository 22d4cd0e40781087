package kheap_test

import (
	"cmp"
	"math/big"
	"slices"

	"peloton/api"
	"peloton/clock"
)

// The functions here follow the definitions and the promises word by word: times and places are those of math/big, and the place above another one is looked for. Whether a clock is valid is told by layer 9, and what is done with it is done by its functions.

// isTime follows the definition of a valid fraction.
func isTime(r api.Ratio) bool {
	if r.Den < 1 || r.Num == least {
		return false
	}
	return big.NewRat(r.Num, r.Den).Denom().Cmp(big.NewInt(r.Den)) == 0
}

func exact(r api.Ratio) *big.Rat {
	return big.NewRat(r.Num, r.Den)
}

func compare(a, b api.Ratio) int {
	return exact(a).Cmp(exact(b))
}

// ratio is a fraction in lowest terms.
func ratio(num, den int64) api.Ratio {
	x := big.NewRat(num, den)
	return frac(x.Num().Int64(), x.Denom().Int64())
}

// fieldError is the error of a field: the one that is named first.
func fieldError(f api.Field) api.Errno {
	if len(f.Points) > 64 {
		return api.ErrMany
	}
	for _, p := range f.Points {
		if p.ID < 0 || p.ID > 65535 || max(p.A, p.B) > 1<<20 || min(p.A, p.B) < -1<<20 {
			return api.ErrBad
		}
	}
	for i, p := range f.Points {
		if i > 0 && f.Points[i-1].ID >= p.ID {
			return api.ErrOrder
		}
	}
	return api.OK
}

// point is the point with an ID, if it is there.
func point(f api.Field, id int) (api.Point, bool) {
	for _, p := range f.Points {
		if p.ID == id {
			return p, true
		}
	}
	return api.Point{}, false
}

// hasAll reports whether a field has all points that certificates name.
func hasAll(f api.Field, list []api.Cert) bool {
	for _, x := range list {
		for _, id := range []int{x.Low, x.High} {
			if _, ok := point(f, id); !ok {
				return false
			}
		}
	}
	return true
}

// place is where a point is at a time.
func place(p api.Point, t api.Ratio) *big.Rat {
	way := new(big.Rat).Mul(big.NewRat(p.B, 1), exact(t))
	return way.Add(way, big.NewRat(p.A, 1))
}

// isAhead reports whether p is ahead of q: by its place, then by its speed, then by its ID.
func isAhead(p, q api.Point, t api.Ratio) bool {
	return cmp.Or(place(q, t).Cmp(place(p, t)), cmp.Compare(q.B, p.B), cmp.Compare(p.ID, q.ID)) < 0
}

// holds reports whether the point High is ahead of the point Low at a time; the field has both.
func holds(f api.Field, x api.Cert, t api.Ratio) bool {
	high, _ := point(f, x.High)
	low, _ := point(f, x.Low)
	return isAhead(high, low, t)
}

// meeting is when two points with different speeds are at the same place.
func meeting(p, q api.Point) api.Ratio {
	return ratio(q.A-p.A, p.B-q.B)
}

// failure is the failure time of a certificate, from a time on, if there is one; the field has both points.
func failure(f api.Field, x api.Cert, now api.Ratio) (api.Ratio, bool) {
	if !holds(f, x, now) {
		return now, true
	}
	high, _ := point(f, x.High)
	low, _ := point(f, x.Low)
	if low.B > high.B {
		return meeting(high, low), true
	}
	return api.Ratio{}, false
}

// above is the place of which another one is a child.
func above(i int) int {
	for k := range i {
		if i == 2*k+1 || i == 2*k+2 {
			return k
		}
	}
	panic("the first place is below no other one")
}

// edgesOf are the edges of a heap.
func edgesOf(heap []int) []api.Cert {
	var list []api.Cert
	for i := range heap {
		if i > 0 {
			list = append(list, over(heap[above(i)], heap[i]))
		}
	}
	return list
}

func certsOf(c api.Clock) []api.Cert {
	var list []api.Cert
	for _, h := range c.Certs.List {
		list = append(list, h.Cert)
	}
	return list
}

// order are the same certificates in one order.
func order(list []api.Cert) []api.Cert {
	return slices.SortedFunc(slices.Values(list), func(x, y api.Cert) int {
		return cmp.Or(cmp.Compare(x.High, y.High), cmp.Compare(x.Low, y.Low))
	})
}

// isValid follows the definition of a kinetic heap that is valid.
func isValid(k api.KHeap) bool {
	f := k.Clock.Field
	if clock.Check(k.Clock) != api.OK || !slices.Equal(slices.Sorted(slices.Values(k.Heap)), idsOf(f)) {
		return false
	}
	for _, x := range edgesOf(k.Heap) {
		if !holds(f, x, k.Clock.Now) {
			return false
		}
	}
	return slices.Equal(order(edgesOf(k.Heap)), order(certsOf(k.Clock)))
}

// isCert follows the definition of a valid certificate.
func isCert(x api.Cert) bool {
	return min(x.Low, x.High) >= 0 && max(x.Low, x.High) <= 65535 && x.Low != x.High
}

// edgeError is the error of edges for a field that is valid.
func edgeError(f api.Field, edges []api.Cert) api.Errno {
	if slices.ContainsFunc(edges, func(x api.Cert) bool { return !isCert(x) }) {
		return api.ErrBad
	}
	for i, x := range edges {
		if slices.Contains(edges[:i], x) {
			return api.ErrTwice
		}
	}
	if !hasAll(f, edges) {
		return api.ErrNone
	}
	return api.OK
}

// renewed is what Renew returns.
func renewed(c api.Clock, f api.Field, edges []api.Cert) (api.Clock, api.Errno) {
	if clock.Check(c) != api.OK {
		return api.Clock{}, api.ErrBad
	}
	if e := cmp.Or(fieldError(f), edgeError(f, edges)); e != api.OK {
		return api.Clock{}, e
	}
	c = cloneClock(c)
	var e api.Errno
	for _, h := range slices.Clone(c.Certs.List) {
		if !slices.Contains(edges, h.Cert) {
			c, e = clock.Retire(c, h.Number)
			if e != api.OK {
				panic("a certificate that cannot be retired")
			}
		}
	}
	if !slices.Equal(c.Field.Points, f.Points) {
		c, e = clock.Alter(c, f)
	}
	for _, x := range edges {
		if e == api.OK && !slices.Contains(certsOf(c), x) {
			c, _, e = clock.Certify(c, x)
		}
	}
	if e != api.OK {
		return api.Clock{}, e
	}
	return c, api.OK
}

// made is what Build returns.
func made(f api.Field, t api.Ratio) (api.KHeap, api.Errno) {
	if e := fieldError(f); e != api.OK {
		return api.KHeap{}, e
	}
	if !isTime(t) {
		return api.KHeap{}, api.ErrBad
	}
	var heap []int
	for _, p := range f.Points {
		i := len(heap)
		heap = append(heap, p.ID)
		for i > 0 && holds(f, over(heap[i], heap[above(i)]), t) {
			heap[i], heap[above(i)] = heap[above(i)], heap[i]
			i = above(i)
		}
	}
	c, e := clock.New(f, t)
	if e == api.OK {
		c, e = renewed(c, f, edgesOf(heap))
	}
	if e != api.OK {
		panic("a heap that cannot be made")
	}
	return api.KHeap{Clock: c, Heap: heap}, api.OK
}

// leader is what Leader returns for a valid heap, told by its field alone.
func leader(k api.KHeap) (int, api.Errno) {
	f := k.Clock.Field
	for _, p := range f.Points {
		if !slices.ContainsFunc(f.Points, func(q api.Point) bool { return q.ID != p.ID && isAhead(q, p, k.Clock.Now) }) {
			return p.ID, api.OK
		}
	}
	return 0, api.ErrEmpty
}

// first is what Next returns for a valid heap.
func first(k api.KHeap) (api.Event, api.Errno) {
	if len(k.Clock.Agenda.Heap) == 0 {
		return api.Event{}, api.ErrEmpty
	}
	return k.Clock.Agenda.Heap[0], api.OK
}

// nextDue is the certificate of a valid clock that fails first, up to a time, if one does; of those that fail at the same time it has the least number.
func nextDue(c api.Clock, to api.Ratio) (api.Held, bool) {
	var best api.Held
	var when api.Ratio
	found := false
	for _, h := range c.Certs.List {
		at, fails := failure(c.Field, h.Cert, c.Now)
		if fails && compare(at, to) <= 0 && (!found || compare(at, when) < 0) {
			best, when, found = h, at, true
		}
	}
	return best, found
}

// timeError is the error of a time to which a valid clock should go.
func timeError(c api.Clock, to api.Ratio) api.Errno {
	if !isTime(to) {
		return api.ErrBad
	}
	if compare(to, c.Now) < 0 {
		return api.ErrPast
	}
	return api.OK
}

// advanced is what Advance returns.
func advanced(k api.KHeap, to api.Ratio) (api.KHeap, []api.Cert, api.Errno) {
	if !isValid(k) {
		return api.KHeap{}, nil, api.ErrBad
	}
	if e := timeError(k.Clock, to); e != api.OK {
		return api.KHeap{}, nil, e
	}
	c, heap := k.Clock, slices.Clone(k.Heap)
	var failed []api.Cert
	for {
		h, due := nextDue(c, to)
		if !due {
			break
		}
		n, y, x, e := clock.Fail(c, to)
		if e != api.OK || y.Number != h.Number || x != h.Cert {
			panic("another certificate fails")
		}
		failed = append(failed, x)
		i, j := slices.Index(heap, x.High), slices.Index(heap, x.Low)
		heap[i], heap[j] = heap[j], heap[i]
		if c, e = renewed(n, n.Field, edgesOf(heap)); e != api.OK {
			return api.KHeap{}, nil, api.ErrFull
		}
	}
	c, e := clock.Move(c, to)
	if e != api.OK {
		panic("a clock that cannot be moved")
	}
	return api.KHeap{Clock: c, Heap: heap}, failed, api.OK
}
