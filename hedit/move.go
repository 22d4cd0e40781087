package hedit

import (
	"peloton/api"
	"peloton/course"
	"peloton/field"
)

// parent is the place above a place from 1 on.
func parent(i int) int {
	return (i - 1) / 2
}

// edgesOf are the certificates that each ID of a heap but the first one is behind its parent.
func edgesOf(heap []int) []api.Cert {
	var list []api.Cert
	for i := 1; i < len(heap); i++ {
		list = append(list, api.Cert{High: heap[parent(i)], Low: heap[i]})
	}
	return list
}

// movers are two functions that move the ID at a place of a heap up and down, by who is ahead in a valid field at a valid time. The field has all IDs of the heap, and rise returns the place at which the ID is then.
func movers(heap []int, f api.Field, t api.Ratio) (rise func(i int) int, sink func(i int)) {
	ahead := func(i, j int) bool { return isAhead(f, heap[i], heap[j], t) }
	exchange := func(i, j int) int {
		heap[i], heap[j] = heap[j], heap[i]
		return j
	}
	rise = func(i int) int {
		for i > 0 && ahead(i, parent(i)) {
			i = exchange(i, parent(i))
		}
		return i
	}
	sink = func(i int) {
		for {
			// The first one of the ID and its children goes above the others.
			first := i
			for _, child := range []int{2*i + 1, 2*i + 2} {
				if child < len(heap) && ahead(child, first) {
					first = child
				}
			}
			if first == i {
				return
			}
			i = exchange(i, first)
		}
	}
	return rise, sink
}

// settle lets the ID at a place of a heap rise, and then sink from where it is.
func settle(heap []int, i int, f api.Field, t api.Ratio) {
	rise, sink := movers(heap, f, t)
	sink(rise(i))
}

// isAhead reports whether the point with an ID is ahead of the one with another ID; a valid field has both.
func isAhead(f api.Field, id, other int, t api.Ratio) bool {
	p, _ := field.Find(f, id)
	q, _ := field.Find(f, other)
	// The IDs differ and the time is valid, so there is no error.
	ahead, _ := course.Ahead(p, q, t)
	return ahead
}
