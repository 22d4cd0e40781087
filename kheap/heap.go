package kheap

import (
	"slices"

	"peloton/api"
	"peloton/course"
	"peloton/field"
)

// parent is the place above a place from 1 on.
func parent(i int) int {
	return (i - 1) / 2
}

// grow returns the heap of a valid field at a valid time, into which its points come one after the other.
func grow(f api.Field, t api.Ratio) []int {
	var heap []api.Point
	for _, p := range f.Points {
		heap = append(heap, p)
		rise(heap, t)
	}
	var ids []int
	for _, p := range heap {
		ids = append(ids, p.ID)
	}
	return ids
}

// rise lets the last point of a heap change places with its parent, as long as it is ahead of it.
func rise(heap []api.Point, t api.Ratio) {
	for i := len(heap) - 1; i > 0 && isAhead(heap[i], heap[parent(i)], t); i = parent(i) {
		heap[i], heap[parent(i)] = heap[parent(i)], heap[i]
	}
}

// isAhead reports whether a valid point is ahead of another one at a valid time.
func isAhead(p, q api.Point, t api.Ratio) bool {
	// The IDs of a field differ, so there is no error.
	ahead, _ := course.Ahead(p, q, t)
	return ahead
}

// edgesOf are the certificates that each ID of a heap but the first one is behind its parent.
func edgesOf(heap []int) []api.Cert {
	var list []api.Cert
	for i := 1; i < len(heap); i++ {
		list = append(list, api.Cert{High: heap[parent(i)], Low: heap[i]})
	}
	return list
}

// exchange lets both IDs of an edge change places.
func exchange(heap []int, x api.Cert) {
	high, low := slices.Index(heap, x.High), slices.Index(heap, x.Low)
	heap[high], heap[low] = x.Low, x.High
}

// hasEachOnce reports whether Heap has each ID of the field of a valid clock once, and no others.
func hasEachOnce(k api.KHeap) bool {
	ids := slices.Sorted(slices.Values(k.Heap))
	return slices.EqualFunc(ids, k.Clock.Field.Points, func(id int, p api.Point) bool { return id == p.ID })
}

// edgesFit reports whether the certificates of a valid clock are just the edges of Heap, and each of them holds at Now, if Heap has each ID once.
func edgesFit(k api.KHeap) bool {
	edges, held := edgesOf(k.Heap), certsOf(k.Clock)
	for _, x := range edges {
		if !held[x] || !holds(k.Clock, x) {
			return false
		}
	}
	// No edge is there twice, so if there are as many as certificates these are all.
	return len(edges) == len(held)
}

// holds reports whether an edge holds at Now, if the field of a valid clock has both of its points.
func holds(c api.Clock, x api.Cert) bool {
	high, _ := field.Find(c.Field, x.High)
	low, _ := field.Find(c.Field, x.Low)
	return isAhead(high, low, c.Now)
}
