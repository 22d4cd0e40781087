package agenda

import (
	"slices"

	"peloton/api"
	"peloton/slot"
)

// parent is the index of the parent of the event with an index from 1 on.
func parent(i int) int {
	return (i - 1) / 2
}

// pushed is a valid agenda with one more event, for which its table has become s.
func pushed(a api.Agenda, s api.Slots, x api.Event) api.Agenda {
	end := len(a.Heap)
	r := api.Agenda{Slots: s, Heap: slices.Concat(a.Heap, []api.Event{x}), Where: slices.Clone(a.Where)}
	place(r, end, x)
	moveUp(r, end)
	return r
}

// without is a valid agenda without the event with an index.
func without(a api.Agenda, i int) api.Agenda {
	h, last := a.Heap[i].Handle, len(a.Heap)-1
	// The handles of all events are live, so there is no error.
	s, _ := slot.Give(a.Slots, h)
	r := api.Agenda{Slots: s, Heap: slices.Clone(a.Heap[:last]), Where: slices.Clone(a.Where)}
	r.Where[h.Index] = nowhere
	if i < last {
		place(r, i, a.Heap[last])
		settle(r, i)
	}
	return r
}

// rekeyed is a valid agenda in which the event with an index has another time.
func rekeyed(a api.Agenda, i int, at api.Ratio) api.Agenda {
	r := clone(a)
	r.Heap[i].At = at
	settle(r, i)
	return r
}

func clone(a api.Agenda) api.Agenda {
	s := api.Slots{Uses: slices.Clone(a.Slots.Uses), Used: slices.Clone(a.Slots.Used), Free: slices.Clone(a.Slots.Free)}
	return api.Agenda{Slots: s, Heap: slices.Clone(a.Heap), Where: slices.Clone(a.Where)}
}

// place writes an event, and where it is, into an agenda; like all functions from here on it writes into the memory of its argument, which must be new.
func place(a api.Agenda, i int, x api.Event) {
	a.Heap[i] = x
	a.Where[x.Handle.Index] = i
}

func swap(a api.Agenda, i, j int) {
	x, y := a.Heap[i], a.Heap[j]
	place(a, i, y)
	place(a, j, x)
}

// settle moves an event up, and then down from where it is then.
func settle(a api.Agenda, i int) {
	moveDown(a, moveUp(a, i))
}

// moveUp moves an event up, and returns its index then.
func moveUp(a api.Agenda, i int) int {
	for i > 0 && isLess(a.Heap[i], a.Heap[parent(i)]) {
		swap(a, i, parent(i))
		i = parent(i)
	}
	return i
}

func moveDown(a api.Agenda, i int) {
	for {
		least := leastOf(a.Heap, i)
		if least == i {
			return
		}
		swap(a, i, least)
		i = least
	}
}

// leastOf is the index of the least one of an event and its children.
func leastOf(heap []api.Event, i int) int {
	least := i
	for child := 2*i + 1; child <= 2*i+2 && child < len(heap); child++ {
		if isLess(heap[child], heap[least]) {
			least = child
		}
	}
	return least
}
