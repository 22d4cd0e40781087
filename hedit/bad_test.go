package hedit_test

import (
	"maps"
	"slices"

	"peloton/agenda"
	"peloton/api"
	"peloton/clock"
	"peloton/kheap"
)

// badTimes are fractions that are not valid, each one for another reason.
func badTimes() []api.Ratio {
	return []api.Ratio{
		{}, frac(1, 0), frac(0, 2), frac(0, -1), frac(2, 2), frac(6, 4), frac(-6, 4), frac(3, -2), frac(least, 1), frac(least, 3), frac(1, least), frac(least, least), frac(most, most),
	}
}

// badPoints are points that are not valid, each one for another reason.
func badPoints() []api.Point {
	return []api.Point{
		pt(-1, 0, 0), pt(top+1, 0, 0), pt(least, 0, 0), pt(most, 0, 0), pt(4, coord+1, 0), pt(4, -coord-1, 0), pt(4, 0, coord+1), pt(4, 0, -coord-1), pt(4, most, least),
	}
}

// badFields are fields that are not valid, with the error of each one: too many points, a point that is not valid, IDs that do not increase, and several of these. Most of them have the points 1, 2 and 5.
func badFields() map[api.Errno][]api.Field {
	p := moving().Points
	list := map[api.Errno][]api.Field{
		api.ErrMany: {
			many(65, 0, func(i int64) (a, b int64) { return i, -i }), many(65, top-64, func(i int64) (a, b int64) { return i, -i }),
			{Points: make([]api.Point, 65)}, {Points: make([]api.Point, 5000)}, {Points: slices.Repeat(badPoints(), 9)}, {Points: slices.Concat(p, many(62, 6, func(i int64) (a, b int64) { return i, 0 }).Points)},
		},
		api.ErrBad:   {points(pt(5, 0, 0), pt(5, 0, 0), pt(-1, 0, 0)), {Points: slices.Repeat(badPoints(), 4)}},
		api.ErrOrder: {points(p[0], p[1], p[1], p[2]), points(p[1], p[0], p[2]), points(p[0], p[2], p[1]), points(p[0], p[1], p[2], p[0]), points(pt(1, 0, 0), pt(1, 0, 1)), {Points: make([]api.Point, 64)}},
	}
	for _, q := range badPoints() {
		list[api.ErrBad] = append(list[api.ErrBad], points(q), points(q, p[0], p[1], p[2]), points(p[0], p[1], q, p[2]), points(p[0], p[1], p[2], q))
	}
	return list
}

// some are valid heaps with several certificates, of which some have events.
func some() []api.KHeap {
	m := mixer(132)
	six, _ := kheap.Build(crowd(6), whole(1))
	return []api.KHeap{early(), six, m.kheapOf(whole(0), moving()), m.kheapOf(whole(3), crowd(9)), m.kheapOf(frac(-1, 2), level(20))}
}

// spoiledClocks are some heaps after a change of their clocks.
func spoiledClocks(change func(c *api.Clock)) []api.KHeap {
	var list []api.KHeap
	for _, k := range some() {
		list = append(list, with(k, func(k *api.KHeap) { change(&k.Clock) }))
	}
	return list
}

// rekeyed is an agenda in which an event has another time.
func rekeyed(a api.Agenda, i int, at api.Ratio) api.Agenda {
	r, e := agenda.Rekey(a, a.Heap[i].Handle, at)
	if e != api.OK {
		panic("an event that cannot be rekeyed")
	}
	return r
}

// badClocks are heaps whose clock is not valid, for each reason, by its name, of which all else is right.
func badClocks() map[string][]api.KHeap {
	var now, fields []api.KHeap
	for _, at := range badTimes() {
		now = append(now, spoiledClocks(func(c *api.Clock) { c.Now = at })...)
	}
	for _, list := range badFields() {
		for _, f := range list {
			fields = append(fields, with(early(), func(k *api.KHeap) { k.Clock.Field, k.Heap = f, append(k.Heap, idsOf(f)...)[3:] }), with(early(), func(k *api.KHeap) { k.Clock.Field = f }))
		}
	}
	return map[string][]api.KHeap{
		"Now is no valid fraction":       now,
		"a field that is not valid":      fields,
		"another number of certificates": slices.Concat(spoiledClocks(func(c *api.Clock) { c.Certs.Next = limit + 1 }), spoiledClocks(func(c *api.Clock) { c.Certs.Next = 0 })),
		"a certificate twice":            spoiledClocks(func(c *api.Clock) { c.Certs.List = append(c.Certs.List, c.Certs.List[0]) }),
		"numbers in another order":       spoiledClocks(func(c *api.Clock) { slices.Reverse(c.Certs.List) }),
		"a certificate that is not valid": slices.Concat(
			spoiledClocks(func(c *api.Clock) { c.Certs.List[0].Cert.Low = c.Certs.List[0].Cert.High }), spoiledClocks(func(c *api.Clock) { c.Certs.List[1].Cert.High = -1 })),
		"a point that is named is not there":  spoiledClocks(func(c *api.Clock) { c.Field = without(c.Field, c.Certs.List[0].Cert.Low) }),
		"another number of slots":             spoiledClocks(func(c *api.Clock) { c.Agenda.Where = c.Agenda.Where[:slots-1] }),
		"no agenda":                           spoiledClocks(func(c *api.Clock) { c.Agenda = api.Agenda{} }),
		"no events":                           spoiledClocks(func(c *api.Clock) { c.Agenda = fresh(0) }),
		"no events at all":                    spoiledClocks(func(c *api.Clock) { c.Agenda, c.Due = fresh(0), nil }),
		"events in another order":             spoiledClocks(func(c *api.Clock) { slices.Reverse(c.Agenda.Heap) }),
		"one that fails is not in Due":        spoiledClocks(func(c *api.Clock) { c.Due = c.Due[1:] }),
		"one is in Due twice":                 spoiledClocks(func(c *api.Clock) { c.Due = append(c.Due, c.Due[0]) }),
		"a handle that is not live":           spoiledClocks(func(c *api.Clock) { c.Due[0].Handle.Use++ }),
		"a handle of an event of another one": spoiledClocks(func(c *api.Clock) { c.Due[0].Handle, c.Due[1].Handle = c.Due[1].Handle, c.Due[0].Handle }),
		"an event of another time":            spoiledClocks(func(c *api.Clock) { c.Agenda = rekeyed(c.Agenda, 0, c.Now) }),
		"an event of a later time":            spoiledClocks(func(c *api.Clock) { c.Agenda = rekeyed(c.Agenda, 0, whole(most)) }),
		"nothing that is right":               {{}, {Heap: numbers(1)}, {Clock: api.Clock{Now: whole(1)}}, {Clock: api.Clock{Now: whole(0), Field: moving()}, Heap: numbers(2, 1, 5)}, {Heap: numbers(2, 1, 5)}},
	}
}

// lateNow are heaps at a time behind an event, of which all else is right.
func lateNow() []api.KHeap {
	var list []api.KHeap
	for _, k := range some() {
		at := k.Clock.Agenda.Heap[0].At
		for _, now := range []api.Ratio{at, ratio(1024*at.Num+1, 1024*at.Den), whole(at.Num + 1), whole(most)} {
			list = append(list, with(k, func(k *api.KHeap) { k.Clock.Now = now }))
		}
	}
	return list
}

// lacking are heaps without an ID, of which all else is right as far as it can be.
func lacking() []api.KHeap {
	list := []api.KHeap{heapOf(whole(0), moving(), 2, 1), heapOf(whole(0), moving(), 2, 5), heapOf(whole(0), moving(), 1, 5), heapOf(whole(0), moving(), 2), heapOf(whole(0), moving()), heapOf(whole(0), points(pt(0, 0, 0)))}
	for _, k := range some() {
		for i := range k.Heap {
			heap := slices.Delete(slices.Clone(k.Heap), i, i+1)
			list = append(list, api.KHeap{Clock: k.Clock, Heap: heap}, heapOf(k.Clock.Now, k.Clock.Field, heap...))
		}
		list = append(list, api.KHeap{Clock: k.Clock})
	}
	return list
}

// doubled are heaps that have an ID twice, beside all others or in the place of one, of which all else is right as far as it can be.
func doubled() []api.KHeap {
	list := []api.KHeap{{Clock: early().Clock, Heap: numbers(2, 1, 5, 1)}, {Clock: clockOf(whole(0), points(pt(3, 0, 0))), Heap: numbers(3, 3)}, {Clock: clockOf(whole(0), moving(), over(2, 1)), Heap: numbers(2, 1, 1)}, {Clock: clockOf(whole(0), moving(), over(2, 1)), Heap: numbers(2, 2, 1)}}
	for _, k := range some() {
		for i := range k.Heap {
			for _, n := range []int{0, len(k.Heap) / 2, len(k.Heap) - 1} {
				list = append(list, with(k, func(k *api.KHeap) { k.Heap = append(k.Heap, k.Heap[i]) }))
				if n != i {
					list = append(list, with(k, func(k *api.KHeap) { k.Heap[n] = k.Heap[i] }))
				}
			}
		}
	}
	return append(list, with(early(), func(k *api.KHeap) { k.Heap = slices.Repeat(k.Heap, 1000) }))
}

// strange are heaps that have an ID that the field has not, beside all others or in the place of one, of which all else is right as far as it can be.
func strange() []api.KHeap {
	list := []api.KHeap{{Clock: clockOf(whole(0), api.Field{}), Heap: numbers(0)}, {Clock: clockOf(whole(0), api.Field{}), Heap: numbers(-1)}, {Clock: clockOf(whole(0), points(pt(3, 0, 0))), Heap: numbers(4)}}
	for _, id := range []int{-1, least, 3, top, top + 1, most, 1<<32 + 1} {
		for _, k := range []api.KHeap{early(), late(), heapOf(whole(0), moving(), 2, 5, 1)} {
			for i := range k.Heap {
				list = append(list, with(k, func(k *api.KHeap) { k.Heap[i] = id }), with(k, func(k *api.KHeap) { k.Heap = slices.Insert(k.Heap, i, id) }))
			}
			list = append(list, with(k, func(k *api.KHeap) { k.Heap = append(k.Heap, id) }))
		}
	}
	return list
}

// unlike are heaps whose certificates are not their edges, of which all else is right: one less, one more, or others.
func unlike() map[string][]api.KHeap {
	var less, more, other []api.KHeap
	for _, k := range some() {
		for _, h := range k.Clock.Certs.List {
			c, _ := clock.Retire(k.Clock, h.Number)
			less = append(less, clocked(k, c))
			if c, _, e := clock.Certify(c, over(h.Cert.Low, h.Cert.High)); e == api.OK {
				other = append(other, clocked(k, c))
			}
		}
		less = append(less, clocked(k, clockOf(k.Clock.Now, k.Clock.Field)))
		for _, p := range k.Clock.Field.Points {
			for _, q := range k.Clock.Field.Points {
				if c, _, e := clock.Certify(k.Clock, over(p.ID, q.ID)); e == api.OK {
					more = append(more, clocked(k, c))
				}
			}
		}
		// The places of two IDs that are not above each other, of different parents, are exchanged.
		for i := range len(k.Heap) - 2 {
			other = append(other, with(k, func(k *api.KHeap) { k.Heap[i+1], k.Heap[i+2] = k.Heap[i+2], k.Heap[i+1] }))
		}
	}
	other = slices.DeleteFunc(other, isValid)
	return map[string][]api.KHeap{"an edge that is no certificate": less, "a certificate that is no edge": more, "other certificates than edges": other}
}

// upset are heaps in which a point is ahead of its parent, of which all else is right.
func upset() []api.KHeap {
	list := []api.KHeap{heapOf(whole(0), moving(), 1, 2, 5), heapOf(whole(0), moving(), 5, 1, 2), heapOf(whole(2), moving(), 2, 1, 5), heapOf(frac(2*fine-1, fine), moving(), 1, 2, 5), heapOf(whole(0), points(pt(3, 1, 1), pt(4, 1, 1)), 4, 3)}
	for _, k := range some() {
		for _, x := range edgesOf(k.Heap) {
			heap := slices.Clone(k.Heap)
			i, j := slices.Index(heap, x.High), slices.Index(heap, x.Low)
			heap[i], heap[j] = heap[j], heap[i]
			list = append(list, heapOf(k.Clock.Now, k.Clock.Field, heap...))
		}
	}
	return list
}

// badHeaps are heaps that are not valid, for each reason, by its name.
func badHeaps() map[string][]api.KHeap {
	list := badClocks()
	maps.Copy(list, unlike())
	list["Now behind an event"] = lateNow()
	list["an ID is not there"] = lacking()
	list["an ID is there twice"] = doubled()
	list["an ID that the field has not"] = strange()
	list["an edge that does not hold"] = upset()
	return list
}

// fewBadHeaps are some of them, in the same order in each run.
func fewBadHeaps() []api.KHeap {
	var list []api.KHeap
	bad := badHeaps()
	for _, reason := range slices.Sorted(maps.Keys(bad)) {
		all := bad[reason]
		for i := 0; i < len(all); i += 1 + len(all)/9 {
			list = append(list, all[i])
		}
	}
	return list
}

// spoiled is a valid heap in which one thing or two are others, so that it is valid no more, mostly.
func (m *mixer) spoiled(n int) api.KHeap {
	k := clone(m.kheap(n))
	for range 1 + m.below(2) {
		i, j := m.below(n), m.below(n)
		switch m.below(7) {
		case 0:
			k.Heap[i%len(k.Heap)], k.Heap[j%len(k.Heap)] = k.Heap[j%len(k.Heap)], k.Heap[i%len(k.Heap)]
		case 1:
			k.Heap[i%len(k.Heap)] = m.below(9)
		case 2:
			if len(k.Heap) > 1 {
				k.Heap = slices.Delete(k.Heap, len(k.Heap)-1, len(k.Heap))
			}
		case 3:
			k.Clock.Now = m.time(k.Clock.Field)
		case 4:
			k.Clock.Field = m.other(k.Clock.Field, 1)
		case 5:
			if c, _, e := clock.Certify(k.Clock, over(m.below(9), m.below(9))); e == api.OK {
				k.Clock = c
			}
		case 6:
			if l := k.Clock.Certs.List; len(l) > 0 {
				k.Clock, _ = clock.Retire(k.Clock, l[i%len(l)].Number)
			}
		}
	}
	return k
}
