package agenda_test

import (
	"slices"

	"peloton/api"
	"peloton/slot"
)

// The functions here follow the definitions word by word; Where is found anew from Heap at the end, instead of going along.

// movedUp is a heap after moving up from an index, and the index at which the event is then.
func movedUp(heap []api.Event, i int) ([]api.Event, int) {
	if i == 0 || !isLess(heap[i], heap[(i-1)/2]) {
		return heap, i
	}
	heap = slices.Clone(heap)
	heap[i], heap[(i-1)/2] = heap[(i-1)/2], heap[i]
	return movedUp(heap, (i-1)/2)
}

// movedDown is a heap after moving down from an index.
func movedDown(heap []api.Event, i int) []api.Event {
	var less []int
	for _, child := range []int{2*i + 1, 2*i + 2} {
		if child < len(heap) && isLess(heap[child], heap[i]) {
			less = append(less, child)
		}
	}
	if len(less) == 0 {
		return heap
	}
	to := slices.MinFunc(less, func(j, k int) int { return order(heap[j], heap[k]) })
	heap = slices.Clone(heap)
	heap[i], heap[to] = heap[to], heap[i]
	return movedDown(heap, to)
}

// settled is a heap after moving up from an index, and then down from where it is then.
func settled(heap []api.Event, i int) []api.Event {
	return movedDown(movedUp(heap, i))
}

// afterPushing is what Push returns for a valid agenda.
func afterPushing(a api.Agenda, at api.Ratio, number int) (api.Agenda, api.Handle, api.Errno) {
	if !isTime(at) {
		return api.Agenda{}, api.Handle{}, api.ErrBad
	}
	if number < 0 || number > 1000000 {
		return api.Agenda{}, api.Handle{}, api.ErrArg
	}
	for _, x := range a.Heap {
		if x.Number == number {
			return api.Agenda{}, api.Handle{}, api.ErrTwice
		}
	}
	s, h, e := slot.Take(a.Slots)
	if e != api.OK {
		return api.Agenda{}, api.Handle{}, api.ErrFull
	}
	heap, _ := movedUp(append(slices.Clone(a.Heap), event(at, number, h.Index, h.Use)), len(a.Heap))
	return of(s, heap...), h, api.OK
}

// afterRemovingAt is a valid agenda after removing the event at an index of Heap, and this event.
func afterRemovingAt(a api.Agenda, i int) (api.Agenda, api.Event, api.Errno) {
	x, end := a.Heap[i], len(a.Heap)-1
	s, _ := slot.Give(a.Slots, x.Handle)
	heap := slices.Clone(a.Heap[:end])
	if i < end {
		heap[i] = a.Heap[end]
		heap = settled(heap, i)
	}
	return of(s, heap...), x, api.OK
}

// indexOf is the index of the event with a handle in Heap, if there is one.
func indexOf(a api.Agenda, h api.Handle) (int, bool) {
	i := slices.IndexFunc(a.Heap, func(x api.Event) bool { return x.Handle == h })
	return i, i >= 0
}

// found is what Find returns for a valid agenda.
func found(a api.Agenda, h api.Handle) (api.Event, api.Errno) {
	i, ok := indexOf(a, h)
	if !ok {
		return api.Event{}, api.ErrNone
	}
	return a.Heap[i], api.OK
}

// first is what Top returns for a valid agenda.
func first(a api.Agenda) (api.Event, api.Errno) {
	if len(a.Heap) == 0 {
		return api.Event{}, api.ErrEmpty
	}
	return a.Heap[0], api.OK
}

// afterPopping is what Pop returns for a valid agenda.
func afterPopping(a api.Agenda) (api.Agenda, api.Event, api.Errno) {
	if len(a.Heap) == 0 {
		return api.Agenda{}, api.Event{}, api.ErrEmpty
	}
	return afterRemovingAt(a, 0)
}

// afterRemoving is what Remove returns for a valid agenda.
func afterRemoving(a api.Agenda, h api.Handle) (api.Agenda, api.Event, api.Errno) {
	i, ok := indexOf(a, h)
	if !ok {
		return api.Agenda{}, api.Event{}, api.ErrNone
	}
	return afterRemovingAt(a, i)
}

// afterRekeying is what Rekey returns for a valid agenda.
func afterRekeying(a api.Agenda, h api.Handle, at api.Ratio) (api.Agenda, api.Errno) {
	if !isTime(at) {
		return api.Agenda{}, api.ErrBad
	}
	i, ok := indexOf(a, h)
	if !ok {
		return api.Agenda{}, api.ErrNone
	}
	heap := slices.Clone(a.Heap)
	heap[i].At = at
	return of(a.Slots, settled(heap, i)...), api.OK
}
