package agenda_test

import (
	"slices"

	"peloton/api"
)

// with is an agenda after a change of a copy of it.
func with(a api.Agenda, change func(a *api.Agenda)) api.Agenda {
	a = clone(a)
	change(&a)
	return a
}

// three is a valid agenda of three slots, which are all used.
func three() api.Agenda {
	return of(table(numbers(1, 2, 3), "xxx"), event(whole(1), 4, 1, 2), event(whole(2), 5, 0, 1), event(whole(3), 6, 2, 3))
}

// eachEvent are three, five, and an agenda of the most events after a change of one of their events: the first one, one in between, and the last one.
func eachEvent(change func(x *api.Event)) []api.Agenda {
	var list []api.Agenda
	for _, a := range []api.Agenda{three(), five(), rising(200)} {
		for _, i := range []int{0, 1, len(a.Heap) - 1} {
			list = append(list, with(a, func(a *api.Agenda) { change(&a.Heap[i]) }))
		}
	}
	return list
}

// badTables are agendas with tables that are not valid, of which all else is right.
func badTables() []api.Agenda {
	list := []api.Agenda{
		{}, {Heap: row(), Where: numbers()}, fresh(201), rising(201), level(5000),
		of(table(numbers(-1), ".", 0)), of(table(numbers(limit+1), ".", 0)), of(table(numbers(0, 0), "..", 0, 0)), of(table(numbers(0, 0), "..", 0)), of(table(numbers(0, 0), "..", 2, 0)), of(table(numbers(0), ".", 0, 1)),
		of(table(numbers(0), "x"), event(whole(1), 4, 0, 0)), of(table(numbers(limit+1), "x"), event(whole(1), 4, 0, limit+1)), of(table(numbers(-5), "x"), event(whole(1), 4, 0, -5)),
		of(table(numbers(1), "x", 0), event(whole(1), 4, 0, 1)),
		// Uses and Used are not of the same length, and Where is like one of them.
		{Slots: table(numbers(0, 0), ".", 0), Where: numbers(-1)}, {Slots: table(numbers(0, 0), ".", 0), Where: numbers(-1, -1)}, {Slots: table(numbers(0), "..", 1, 0), Where: numbers(-1)}, {Slots: table(numbers(0), "..", 1, 0), Where: numbers(-1, -1)},
		{Slots: table(nil, "x"), Heap: row(event(whole(1), 4, 0, 1)), Where: numbers(0)}, {Slots: table(numbers(1), ""), Heap: row(event(whole(1), 4, 0, 1)), Where: numbers(0)},
	}
	for _, a := range []api.Agenda{three(), five(), fresh(7)} {
		list = append(list,
			with(a, func(a *api.Agenda) { a.Slots.Uses = append(a.Slots.Uses, 0) }),
			with(a, func(a *api.Agenda) { a.Slots.Used = append(a.Slots.Used, true) }),
			with(a, func(a *api.Agenda) { a.Slots.Free = append(a.Slots.Free, 0) }),
		)
	}
	return list
}

// badLengths are agendas whose Where has not an element for each slot.
func badLengths() []api.Agenda {
	var list []api.Agenda
	for _, a := range []api.Agenda{three(), five(), fresh(1), fresh(200), rising(200)} {
		list = append(list,
			with(a, func(a *api.Agenda) { a.Where = nil }),
			with(a, func(a *api.Agenda) { a.Where = a.Where[:len(a.Where)-1] }),
			with(a, func(a *api.Agenda) { a.Where = append(a.Where, -1) }),
			with(a, func(a *api.Agenda) { a.Where = append(a.Where, 0) }),
			with(a, func(a *api.Agenda) { a.Where = append(a.Where, a.Where...) }),
		)
	}
	return list
}

// tooFew are agendas in which a slot that is used has no event.
func tooFew() []api.Agenda {
	list := []api.Agenda{
		{Slots: table(numbers(1), "x"), Where: numbers(-1)}, {Slots: table(numbers(1), "x"), Where: numbers(0)},
		of(three().Slots, three().Heap[:2]...), of(three().Slots, three().Heap[1:]...), of(three().Slots), of(five().Slots, five().Heap[:3]...), of(five().Slots, five().Heap[1:]...),
		of(rising(200).Slots, rising(199).Heap...),
	}
	for _, a := range []api.Agenda{three(), five(), rising(200)} {
		list = append(list, with(a, func(a *api.Agenda) { a.Heap = a.Heap[:len(a.Heap)-1] }), with(a, func(a *api.Agenda) { a.Heap = nil }))
	}
	return list
}

// tooMany are agendas with more events than slots that are used: one twice, one of a slot that is free, or one of none.
func tooMany() []api.Agenda {
	list := []api.Agenda{
		{Slots: table(numbers(0), ".", 0), Heap: row(event(whole(1), 4, 0, 0)), Where: numbers(0)}, {Slots: table(numbers(1), ".", 0), Heap: row(event(whole(1), 4, 0, 1)), Where: numbers(0)},
		{Slots: table(numbers(1), ".", 0), Heap: row(event(whole(1), 4, 0, 1)), Where: numbers(-1)}, {Slots: table(numbers(0), ".", 0), Heap: row(event(whole(1), 4, 7, 1)), Where: numbers(-1)},
	}
	for _, a := range []api.Agenda{three(), five(), rising(200)} {
		last := a.Heap[len(a.Heap)-1]
		for _, h := range []api.Handle{last.Handle, a.Heap[0].Handle, handle(1, 1), handle(len(a.Where), 1), handle(-1, 1)} {
			x := api.Event{At: whole(1000), Number: 1000, Handle: h}
			list = append(list, with(a, func(a *api.Agenda) { a.Heap = append(a.Heap, x) }))
			// Where leads to the new one instead.
			if 0 <= h.Index && h.Index < len(a.Where) {
				list = append(list, with(a, func(a *api.Agenda) { a.Where[h.Index] = len(a.Heap); a.Heap = append(a.Heap, x) }))
			}
		}
	}
	return list
}

// notLive are agendas with an event whose handle is not live, in a slot that is used, or with the handle of another event.
func notLive() []api.Agenda {
	list := slices.Concat(
		eachEvent(func(x *api.Event) { x.Handle.Use-- }), eachEvent(func(x *api.Event) { x.Handle.Use++ }), eachEvent(func(x *api.Event) { x.Handle.Use = 0 }), eachEvent(func(x *api.Event) { x.Handle.Use += 1 << 32 }),
		eachEvent(func(x *api.Event) { x.Handle.Index++ }), eachEvent(func(x *api.Event) { x.Handle.Index-- }), eachEvent(func(x *api.Event) { x.Handle = handle(-1, 1) }), eachEvent(func(x *api.Event) { x.Handle = api.Handle{} }),
		eachEvent(func(x *api.Event) { x.Handle = handle(least, most) }),
	)
	for _, a := range []api.Agenda{three(), five(), rising(200)} {
		list = append(list,
			with(a, func(a *api.Agenda) { a.Heap[0].Handle = a.Heap[1].Handle }),
			with(a, func(a *api.Agenda) { a.Heap[1].Handle = a.Heap[0].Handle }),
			with(a, func(a *api.Agenda) { a.Heap[0].Handle, a.Heap[1].Handle = a.Heap[1].Handle, a.Heap[0].Handle }),
		)
	}
	return list
}

// notWhere are agendas whose Where has another index for a slot that is used, or something else than -1 for another one.
func notWhere() (used, free []api.Agenda) {
	for _, a := range []api.Agenda{three(), five(), rising(200), fresh(1), fresh(200)} {
		for i := 0; i < len(a.Where); i += 1 + len(a.Where)/9 {
			for _, at := range []int{-2, -1, 0, 1, len(a.Heap) - 1, len(a.Heap), a.Where[i] + 1, most, least} {
				b := with(a, func(a *api.Agenda) { a.Where[i] = at })
				switch {
				case at == a.Where[i]:
				case a.Slots.Used[i]:
					used = append(used, b)
				default:
					free = append(free, b)
				}
			}
		}
		if len(a.Heap) > 0 {
			used = append(used, with(a, func(a *api.Agenda) { a.Where[0], a.Where[len(a.Where)-1] = a.Where[len(a.Where)-1], a.Where[0] }))
		}
	}
	return used, free
}

// notInOrder are agendas in which an event is less than its parent, by its time, or by its number alone.
func notInOrder() []api.Agenda {
	two := table(numbers(1, 1), "xx")
	list := []api.Agenda{
		of(two, event(whole(2), 0, 0, 1), event(whole(1), 1, 1, 1)), of(two, event(whole(1), 1, 0, 1), event(whole(1), 0, 1, 1)), of(two, event(whole(1), 1, 1, 1), event(whole(1), 0, 0, 1)),
		of(two, event(frac(1, most-1), 0, 0, 1), event(frac(1, most), 1, 1, 1)), of(two, event(frac(most-1, most), 0, 0, 1), event(frac(most-2, most-1), 1, 1, 1)),
		of(two, event(whole(most), 0, 0, 1), event(whole(-most), 1, 1, 1)), of(two, event(whole(0), 0, 0, 1), event(frac(-1, most), limit, 1, 1)),
	}
	for _, a := range []api.Agenda{three(), five(), rising(200), level(200), level(2)} {
		for _, i := range []int{1, len(a.Heap) / 2, len(a.Heap) - 1} {
			parent := (i - 1) / 2
			// Both change places, and Where goes along.
			b := clone(a)
			b.Heap[i], b.Heap[parent] = b.Heap[parent], b.Heap[i]
			list = append(list, of(b.Slots, b.Heap...), with(a, func(a *api.Agenda) { a.Heap[i].At = whole(-1) }))
		}
	}
	return list
}

// badAgendas are agendas that are not valid, for each reason, by its name.
func badAgendas() map[string][]api.Agenda {
	var times []api.Agenda
	for _, bad := range badTimes() {
		times = append(times, eachEvent(func(x *api.Event) { x.At = bad })...)
		times = append(times, of(table(numbers(1), "x"), event(bad, 4, 0, 1)))
	}
	var low, high, twice []api.Agenda
	for _, n := range []int{-1, -2, -limit, least} {
		low = append(low, eachEvent(func(x *api.Event) { x.Number = n })...)
		low = append(low, of(table(numbers(1), "x"), event(whole(1), n, 0, 1)))
	}
	for _, n := range []int{limit + 1, limit + 2, 1<<32 + 7, most} {
		high = append(high, eachEvent(func(x *api.Event) { x.Number = n })...)
		high = append(high, of(table(numbers(1), "x"), event(whole(1), n, 0, 1)))
	}
	for _, a := range []api.Agenda{three(), five(), rising(200), level(3)} {
		for _, i := range []int{0, 1, len(a.Heap) - 1} {
			for _, k := range []int{0, 2, len(a.Heap) - 2} {
				if i != k {
					twice = append(twice, with(a, func(a *api.Agenda) { a.Heap[i].Number = a.Heap[k].Number }))
				}
			}
		}
	}
	used, free := notWhere()
	return map[string][]api.Agenda{
		"a table that is not valid":             badTables(),
		"Where of another length":               badLengths(),
		"too few events":                        tooFew(),
		"too many events":                       tooMany(),
		"a handle that is not live":             notLive(),
		"a time that is not valid":              times,
		"a number below 0":                      low,
		"a number above MaxUses":                high,
		"the same number twice":                 twice,
		"another index of a slot that is used":  used,
		"not -1 for a slot that is not used":    free,
		"an event that is less than its parent": notInOrder(),
		"nothing that is right":                 {{Slots: table(numbers(-1, most), "x.x", -1, 7), Heap: row(event(api.Ratio{}, -1, 9, 9), event(api.Ratio{}, -1, 9, 9)), Where: numbers(7)}},
		"events without slots":                  {{Heap: rising(3).Heap, Where: rising(3).Where}, {Heap: rising(300).Heap}, {Where: make([]int, 300)}},
	}
}

// allAgendas are valid and other ones, in the same order in each run.
func allAgendas() []api.Agenda {
	list := goodAgendas()
	bad := badAgendas()
	var reasons []string
	for reason := range bad {
		reasons = append(reasons, reason)
	}
	slices.Sort(reasons)
	for _, reason := range reasons {
		list = append(list, bad[reason]...)
	}
	return list
}
