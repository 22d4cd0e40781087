package hedit_test

import (
	"cmp"
	"math/big"
	"slices"

	"peloton/api"
	"peloton/clock"
	"peloton/kheap"
)

// The functions here follow the definitions and the promises word by word: places are those of math/big, and the places above and below another one are looked for. Whether a clock is valid is told by layer 9, and it is renewed by layer 13.

func exact(r api.Ratio) *big.Rat {
	return big.NewRat(r.Num, r.Den)
}

func compare(a, b api.Ratio) int {
	return exact(a).Cmp(exact(b))
}

// ratio is a fraction in lowest terms.
func ratio(num, den int64) api.Ratio {
	x := big.NewRat(num, den)
	return frac(x.Num().Int64(), x.Denom().Int64())
}

// point is the point with an ID, if it is there.
func point(f api.Field, id int) (api.Point, bool) {
	for _, p := range f.Points {
		if p.ID == id {
			return p, true
		}
	}
	return api.Point{}, false
}

// isPoint follows the definition of a valid point.
func isPoint(p api.Point) bool {
	return p.ID >= 0 && p.ID <= 65535 && max(p.A, p.B) <= 1<<20 && min(p.A, p.B) >= -1<<20
}

// place is where a point is at a time.
func place(p api.Point, t api.Ratio) *big.Rat {
	way := new(big.Rat).Mul(big.NewRat(p.B, 1), exact(t))
	return way.Add(way, big.NewRat(p.A, 1))
}

// isAhead reports whether p is ahead of q: by its place, then by its speed, then by its ID.
func isAhead(p, q api.Point, t api.Ratio) bool {
	return cmp.Or(place(q, t).Cmp(place(p, t)), cmp.Compare(q.B, p.B), cmp.Compare(p.ID, q.ID)) < 0
}

// holds reports whether the point High is ahead of the point Low at a time; the field has both.
func holds(f api.Field, x api.Cert, t api.Ratio) bool {
	high, _ := point(f, x.High)
	low, _ := point(f, x.Low)
	return isAhead(high, low, t)
}

// meeting is when two points with different speeds are at the same place.
func meeting(p, q api.Point) api.Ratio {
	return ratio(q.A-p.A, p.B-q.B)
}

// above is the place of which another one is a child.
func above(i int) int {
	for k := range i {
		if i == 2*k+1 || i == 2*k+2 {
			return k
		}
	}
	panic("the first place is below no other one")
}

// below are the places of a heap above which a place is.
func below(heap []int, i int) []int {
	var list []int
	for k := range heap {
		if k > 0 && above(k) == i {
			list = append(list, k)
		}
	}
	return list
}

// edgesOf are the edges of a heap.
func edgesOf(heap []int) []api.Cert {
	var list []api.Cert
	for i := range heap {
		if i > 0 {
			list = append(list, over(heap[above(i)], heap[i]))
		}
	}
	return list
}

func certsOf(c api.Clock) []api.Cert {
	var list []api.Cert
	for _, h := range c.Certs.List {
		list = append(list, h.Cert)
	}
	return list
}

// order are the same certificates in one order.
func order(list []api.Cert) []api.Cert {
	return slices.SortedFunc(slices.Values(list), func(x, y api.Cert) int {
		return cmp.Or(cmp.Compare(x.High, y.High), cmp.Compare(x.Low, y.Low))
	})
}

// isValid follows the definition of a kinetic heap that is valid.
func isValid(k api.KHeap) bool {
	f := k.Clock.Field
	if clock.Check(k.Clock) != api.OK || !slices.Equal(slices.Sorted(slices.Values(k.Heap)), idsOf(f)) {
		return false
	}
	for _, x := range edgesOf(k.Heap) {
		if !holds(f, x, k.Clock.Now) {
			return false
		}
	}
	return slices.Equal(order(edgesOf(k.Heap)), order(certsOf(k.Clock)))
}

// exchanged is a heap with the IDs of two places exchanged.
func exchanged(heap []int, i, k int) []int {
	heap = slices.Clone(heap)
	heap[i], heap[k] = heap[k], heap[i]
	return heap
}

// risen is a heap after the ID at a place rose, and where this is then.
func risen(heap []int, i int, f api.Field, t api.Ratio) ([]int, int) {
	if i == 0 || !holds(f, over(heap[i], heap[above(i)]), t) {
		return heap, i
	}
	return risen(exchanged(heap, i, above(i)), above(i), f, t)
}

// sunk is a heap after the ID at a place sank.
func sunk(heap []int, i int, f api.Field, t api.Ratio) []int {
	list := below(heap, i)
	for _, child := range list {
		first := !slices.ContainsFunc(list, func(k int) bool { return k != child && holds(f, over(heap[k], heap[child]), t) })
		if first && holds(f, over(heap[child], heap[i]), t) {
			return sunk(exchanged(heap, i, child), child, f, t)
		}
	}
	return heap
}

// settled is a heap after the ID at a place rose, and then sank from where it was.
func settled(heap []int, i int, f api.Field, t api.Ratio) []int {
	heap, i = risen(heap, i, f, t)
	return sunk(heap, i, f, t)
}

// renewed is a heap with a clock that is renewed for a field and the edges of some IDs.
func renewed(k api.KHeap, f api.Field, heap []int) (api.KHeap, api.Errno) {
	c, e := kheap.Renew(k.Clock, f, edgesOf(heap))
	if e != api.OK {
		return api.KHeap{}, e
	}
	return api.KHeap{Clock: c, Heap: heap}, api.OK
}

// put is what Put returns.
func put(k api.KHeap, p api.Point) (api.KHeap, api.Errno) {
	if !isValid(k) || !isPoint(p) {
		return api.KHeap{}, api.ErrBad
	}
	f := k.Clock.Field
	if _, there := point(f, p.ID); there {
		return api.KHeap{}, api.ErrTwice
	}
	if len(f.Points) == 64 {
		return api.KHeap{}, api.ErrFull
	}
	f = withPoint(f, p)
	heap, _ := risen(append(slices.Clone(k.Heap), p.ID), len(k.Heap), f, k.Clock.Now)
	return renewed(k, f, heap)
}

// taken is what Take returns.
func taken(k api.KHeap, id int) (api.KHeap, api.Errno) {
	if !isValid(k) {
		return api.KHeap{}, api.ErrBad
	}
	at := slices.Index(k.Heap, id)
	if at < 0 {
		return api.KHeap{}, api.ErrNone
	}
	f := without(k.Clock.Field, id)
	heap := slices.Clone(k.Heap)
	last := heap[len(heap)-1]
	heap = heap[:len(heap)-1]
	if last != id {
		heap[at] = last
		heap = settled(heap, at, f, k.Clock.Now)
	}
	return renewed(k, f, heap)
}

// changed is what Change returns.
func changed(k api.KHeap, p api.Point) (api.KHeap, api.Errno) {
	if !isValid(k) || !isPoint(p) {
		return api.KHeap{}, api.ErrBad
	}
	at := slices.Index(k.Heap, p.ID)
	if at < 0 {
		return api.KHeap{}, api.ErrNone
	}
	f := withPoint(k.Clock.Field, p)
	return renewed(k, f, settled(slices.Clone(k.Heap), at, f, k.Clock.Now))
}
