package agenda

import (
	"slices"

	"peloton/api"
	"peloton/ratio"
)

// nowhere is what Where has for slots that have no event.
const nowhere = -1

func isNumber(n int) bool {
	return 0 <= n && n <= api.MaxUses
}

// whereFits reports whether Where leads from each slot of a valid table to the event with its live handle, and Heap has no other events.
func whereFits(a api.Agenda) bool {
	if len(a.Where) != len(a.Slots.Used) {
		return false
	}
	events := 0
	for i, used := range a.Slots.Used {
		if !used && a.Where[i] != nowhere || used && !hasEvent(a, i) {
			return false
		}
		if used {
			events++
		}
	}
	// Each slot that is used has another event, so if there are as many as that these are all.
	return events == len(a.Heap)
}

// hasEvent reports whether Where leads from a slot that is used to the event with its live handle.
func hasEvent(a api.Agenda, i int) bool {
	at := a.Where[i]
	live := api.Handle{Index: i, Use: a.Slots.Uses[i]}
	return 0 <= at && at < len(a.Heap) && a.Heap[at].Handle == live
}

// eventsFit reports whether all events have valid times and different numbers, which are not out of range.
func eventsFit(heap []api.Event) bool {
	var numbers []int
	for _, x := range heap {
		if ratio.Check(x.At) != api.OK || !isNumber(x.Number) {
			return false
		}
		numbers = append(numbers, x.Number)
	}
	slices.Sort(numbers)
	return len(slices.Compact(numbers)) == len(heap)
}

// isHeap reports whether no event is less than its parent, if all of them are valid.
func isHeap(heap []api.Event) bool {
	for i := 1; i < len(heap); i++ {
		if isLess(heap[i], heap[parent(i)]) {
			return false
		}
	}
	return true
}

func isLess(x, y api.Event) bool {
	// Fractions in lowest terms are the same number only if they are the same value.
	if x.At == y.At {
		return x.Number < y.Number
	}
	// Both are valid, so there is no error.
	k, _ := ratio.Cmp(x.At, y.At)
	return k < 0
}
