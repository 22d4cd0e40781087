package clock_test

import (
	"slices"

	"peloton/agenda"
	"peloton/api"
)

// some are valid clocks with certificates that have events, and with some that have none.
func some() []api.Clock {
	m := mixer(90)
	return []api.Clock{example(), gapped(), worn(example(), &m), worn(gapped(), &m), of(whole(9), crowd(12), pairs(50))}
}

// each are some clocks after a change of something of which they have several: the first one, one in between, and the last one.
func each(how func(c api.Clock) int, change func(c *api.Clock, i int)) []api.Clock {
	var list []api.Clock
	for _, c := range some() {
		for _, i := range []int{0, how(c) / 2, how(c) - 1} {
			list = append(list, with(c, func(c *api.Clock) { change(c, i) }))
		}
	}
	return list
}

func dues(c api.Clock) int {
	return len(c.Due)
}

func events(c api.Clock) int {
	return len(c.Agenda.Heap)
}

// badNow are clocks whose Now is no valid fraction, of which all else is right.
func badNow() []api.Clock {
	var list []api.Clock
	for _, now := range badTimes() {
		for _, c := range append(some(), bare(whole(0), api.Field{}), bare(whole(0), moving())) {
			list = append(list, with(c, func(c *api.Clock) { c.Now = now }))
		}
	}
	return list
}

// notFields are clocks with a field that is not valid, of which all else is right.
func notFields() []api.Clock {
	var list []api.Clock
	for _, fields := range badFields() {
		for _, f := range fields {
			list = append(list, bare(whole(1), f), with(example(), func(c *api.Clock) { c.Field = f }))
		}
	}
	return list
}

// notStores are clocks with a store that is not valid, of which all else is right as far as it can be.
func notStores() []api.Clock {
	list := []api.Clock{
		of(whole(1), moving(), certs(-1)), of(whole(1), moving(), certs(limit+1)), of(whole(1), moving(), certs(limit+1, held(limit, 1, 5))),
		of(whole(1), moving(), certs(1, held(0, 2, 1), held(1, 2, 5))), of(whole(1), moving(), certs(0, held(0, 1, 5))), of(whole(1), moving(), certs(limit+1, example().Certs.List...)),
		of(whole(1), moving(), certs(3, held(0, 2, 1), held(1, 2, 1))), of(whole(1), moving(), certs(3, held(0, 1, 5), held(1, 2, 1), held(2, 1, 5))),
		of(whole(1), moving(), certs(3, held(1, 2, 1), held(0, 2, 5))), of(whole(1), moving(), certs(3, held(1, 1, 5), held(1, 2, 5))), of(whole(1), moving(), certs(3, held(-1, 1, 5))),
		of(whole(1), moving(), certs(3, held(0, 1, 1), held(1, 2, 5))), of(whole(1), points(pt(-1, 0, 0), pt(1, 0, 0)), certs(3, held(0, 1, -1))), of(whole(1), points(pt(1, 0, 0), pt(top+1, 0, 0)), certs(3, held(0, 1, top+1))),
		of(whole(1), level(64), turned(pairs(201))), of(whole(1), level(64), turned(pairs(2000))),
	}
	for _, next := range []int{-1, 0, 2, limit + 1, most, least} {
		list = append(list, with(example(), func(c *api.Clock) { c.Certs.Next = next }))
	}
	return list
}

// missing are clocks whose field is without a point that a certificate names, as High or as Low, whether it fails or not.
func missing() []api.Clock {
	var list []api.Clock
	for _, c := range some() {
		for i, p := range c.Field.Points {
			named := slices.ContainsFunc(c.Certs.List, func(h api.Held) bool { return h.Cert.High == p.ID || h.Cert.Low == p.ID })
			if named {
				list = append(list, with(c, func(c *api.Clock) { c.Field.Points = slices.Delete(c.Field.Points, i, i+1) }))
			}
		}
		list = append(list, with(c, func(c *api.Clock) { c.Field = api.Field{} }))
	}
	// All that is said of a point that is not there could be said of a point 0 that stands at 0.
	for _, x := range []api.Held{held(0, 1, 5), held(0, 1, 0), held(0, 3, 5), held(0, 3, 9)} {
		for _, f := range []api.Field{{}, points(pt(1, 0, 2)), points(pt(5, 0, 0)), points(pt(7, 0, 0))} {
			if !hasAll(f, x) {
				list = append(list, with(bare(whole(1), f), func(c *api.Clock) { c.Certs = certs(1, x) }))
			}
		}
	}
	return list
}

// notAgendas are clocks with an agenda that is not valid, of which all else is right.
func notAgendas() []api.Clock {
	list := slices.Concat(
		each(events, func(c *api.Clock, i int) { c.Agenda.Where[c.Agenda.Heap[i].Handle.Index] = -1 }),
		each(events, func(c *api.Clock, i int) { c.Agenda.Where = append(c.Agenda.Where, -1) }),
		each(events, func(c *api.Clock, i int) { c.Agenda.Where = nil }),
		each(events, func(c *api.Clock, i int) { c.Agenda.Slots.Used[c.Agenda.Heap[i].Handle.Index] = false }),
		each(events, func(c *api.Clock, i int) { c.Agenda.Heap = append(c.Agenda.Heap, c.Agenda.Heap[i]) }),
	)
	for _, c := range some() {
		for _, i := range []int{1, len(c.Agenda.Heap) / 2, len(c.Agenda.Heap) - 1} {
			// Both change places, and Where goes along; only the order is wrong.
			parent := (i - 1) / 2
			list = append(list, with(c, func(c *api.Clock) {
				a := c.Agenda
				a.Heap[i], a.Heap[parent] = a.Heap[parent], a.Heap[i]
				a.Where[a.Heap[i].Handle.Index], a.Where[a.Heap[parent].Handle.Index] = i, parent
			}))
		}
	}
	for _, c := range []api.Clock{example(), bare(whole(1), moving())} {
		list = append(list,
			with(c, func(c *api.Clock) { c.Agenda.Slots.Uses[199] = -1 }), with(c, func(c *api.Clock) { c.Agenda.Slots.Uses[199] = limit + 1 }),
			with(c, func(c *api.Clock) { c.Agenda.Slots.Free = c.Agenda.Slots.Free[1:] }), with(c, func(c *api.Clock) { c.Agenda.Slots.Used[150] = true }),
			with(c, func(c *api.Clock) { c.Agenda.Slots.Uses = c.Agenda.Slots.Uses[:199] }), with(c, func(c *api.Clock) { c.Agenda.Where[150] = 0 }),
		)
	}
	return list
}

// resized is a clock with an agenda of n slots, of which the first ones alone are used; its table is not valid if n is 0 or more than 200.
func resized(c api.Clock, n int) api.Clock {
	return with(c, func(c *api.Clock) {
		c.Agenda.Slots.Uses = append(c.Agenda.Slots.Uses, make([]int, slots)...)[:n]
		c.Agenda.Slots.Used = append(c.Agenda.Slots.Used, make([]bool, slots)...)[:n]
		c.Agenda.Where = append(c.Agenda.Where, slices.Repeat(numbers(-1), slots)...)[:n]
		c.Agenda.Slots.Free = nil
		for i := n - 1; i >= len(c.Agenda.Heap); i-- {
			c.Agenda.Slots.Free = append(c.Agenda.Slots.Free, i)
		}
	})
}

// otherSizes are clocks whose agenda has not 200 slots, of which all else is right.
func otherSizes() []api.Clock {
	list := []api.Clock{with(bare(whole(1), moving()), func(c *api.Clock) { c.Agenda = api.Agenda{} }), with(example(), func(c *api.Clock) { c.Agenda = api.Agenda{} })}
	for _, n := range []int{1, 2, 3, 64, 100, 198, 199, 201, 202, 300} {
		list = append(list, resized(bare(whole(1), moving()), n))
		if n >= 4 {
			list = append(list, resized(gapped(), n))
		}
		if n >= 2 {
			list = append(list, resized(example(), n))
		}
	}
	return list
}

// unpushed is a clock without the event of a certificate, whether that is right or not; Due stays.
func unpushed(c api.Clock, number int) api.Clock {
	c = clone(c)
	x, _ := eventOf(c.Agenda, number)
	c.Agenda, _, _ = agenda.Remove(c.Agenda, x.Handle)
	return c
}

// notDue are clocks without a number in Due, with its event or without it; and such without the event alone.
func notDue() []api.Clock {
	list := each(dues, func(c *api.Clock, i int) { c.Due = slices.Delete(c.Due, i, i+1) })
	list = append(list, each(dues, func(c *api.Clock, i int) { *c = unpushed(*c, c.Due[i].Number) })...)
	list = append(list, each(dues, func(c *api.Clock, i int) {
		*c = unpushed(*c, c.Due[i].Number)
		c.Due = slices.Delete(c.Due, i, i+1)
	})...)
	for _, c := range some() {
		list = append(list, with(c, func(c *api.Clock) { c.Due = nil }), with(c, func(c *api.Clock) { c.Due = nil; c.Agenda = fresh() }), with(c, func(c *api.Clock) { c.Agenda = fresh() }))
	}
	return list
}

// neverFails are clocks with an event, and an element of Due, for a certificate that never fails, of which all else is right; and such with the element alone.
func neverFails() []api.Clock {
	var list []api.Clock
	for _, at := range []api.Ratio{whole(0), whole(1), frac(3, 2), whole(2), whole(6), whole(7), whole(-most), whole(most)} {
		list = append(list, pushed(clone(example()), at, 2), pushed(clone(gapped()), at, 15), pushed(clone(gapped()), at, 16))
		// The meeting of 1 and 5 was before.
		list = append(list, pushed(of(whole(1), moving(), certs(1, held(0, 1, 5))), at, 0))
	}
	for _, h := range []api.Handle{{}, {Index: 2, Use: 1}, {Index: 0, Use: 1}, {Index: -1, Use: 1}, {Index: slots, Use: 0}} {
		list = append(list, with(example(), func(c *api.Clock) { c.Due = append(c.Due, api.Due{Number: 2, Handle: h}) }))
		list = append(list, with(of(whole(1), moving(), certs(1, held(0, 1, 5))), func(c *api.Clock) { c.Due = []api.Due{{Number: 0, Handle: h}} }))
	}
	return list
}

// failedBefore are clocks at a time behind that of an event, of which all else is right: the certificate fails now.
func failedBefore() []api.Clock {
	var list []api.Clock
	for _, now := range []api.Ratio{frac(2*fine+1, fine), frac(5, 2), whole(3), whole(6), whole(7), whole(most)} {
		for _, c := range []api.Clock{example(), gapped(), of(whole(1), moving(), certs(1, held(0, 2, 1))), of(whole(1), moving(), certs(1, held(0, 1, 2)))} {
			list = append(list, with(c, func(c *api.Clock) { c.Now = now }))
		}
	}
	// At an earlier time 1 is not ahead of 5 yet, and at a later one 5 never fails, or 2 and 1 meet still.
	list = append(list, with(example(), func(c *api.Clock) { c.Now = whole(-1) }), with(example(), func(c *api.Clock) { c.Now = frac(-1, most) }))
	return append(list, with(gapped(), func(c *api.Clock) { c.Now = whole(0) }), with(gapped(), func(c *api.Clock) { c.Now = whole(2) }))
}

// otherOrder are clocks whose Due has the numbers in another order, or one of them twice, of which all else is right.
func otherOrder() []api.Clock {
	list := each(dues, func(c *api.Clock, i int) { c.Due[0], c.Due[max(i, 1)] = c.Due[max(i, 1)], c.Due[0] })
	list = append(list, each(dues, func(c *api.Clock, i int) { c.Due = slices.Insert(c.Due, i, c.Due[i]) })...)
	list = append(list, each(dues, func(c *api.Clock, i int) { c.Due[i] = c.Due[(i+1)%len(c.Due)] })...)
	return append(list, each(dues, func(c *api.Clock, i int) { slices.Reverse(c.Due) })...)
}

// notLive are clocks with a handle in Due that is not live, or that of another event, of which all else is right.
func notLive() []api.Clock {
	var list []api.Clock
	for _, change := range []func(c *api.Clock, h *api.Handle){
		func(c *api.Clock, h *api.Handle) { h.Use++ },
		func(c *api.Clock, h *api.Handle) { h.Use-- },
		func(c *api.Clock, h *api.Handle) { h.Use = least },
		func(c *api.Clock, h *api.Handle) { h.Index = -1 },
		func(c *api.Clock, h *api.Handle) { h.Index = slots },
		func(c *api.Clock, h *api.Handle) { h.Index = most },
		func(c *api.Clock, h *api.Handle) { h.Index = least },
		func(c *api.Clock, h *api.Handle) { *h = api.Handle{} },
		func(c *api.Clock, h *api.Handle) { h.Index += 1 << 32 },
	} {
		list = append(list, each(dues, func(c *api.Clock, i int) { change(c, &c.Due[i].Handle) })...)
	}
	for _, c := range some() {
		free := c.Agenda.Slots.Free
		for _, slot := range free[:min(len(free), 3)] {
			h := api.Handle{Index: slot, Use: c.Agenda.Slots.Uses[slot]}
			list = append(list, with(c, func(c *api.Clock) { c.Due[0].Handle = h }), with(c, func(c *api.Clock) { c.Due[len(c.Due)-1].Handle = h }))
		}
	}
	return list
}

// otherNumbers are clocks with a handle in Due that is that of the event of another number, of which all else is right.
func otherNumbers() []api.Clock {
	list := each(dues, func(c *api.Clock, i int) {
		k := (i + 1) % len(c.Due)
		c.Due[i].Handle, c.Due[k].Handle = c.Due[k].Handle, c.Due[i].Handle
	})
	list = append(list, each(dues, func(c *api.Clock, i int) { c.Due[i].Handle = c.Due[(i+1)%len(c.Due)].Handle })...)
	// A number in Due, or of an event, that no certificate has.
	list = append(list, each(dues, func(c *api.Clock, i int) { c.Due[i].Number = c.Certs.Next })...)
	list = append(list, each(events, func(c *api.Clock, i int) { c.Agenda.Heap[i].Number = c.Certs.Next })...)
	return slices.DeleteFunc(list, func(c api.Clock) bool { return agenda.Check(c.Agenda) != api.OK })
}

// otherTimes are clocks with an event at another time than the failure time, of which all else is right.
func otherTimes() []api.Clock {
	var list []api.Clock
	for _, at := range []api.Ratio{whole(0), whole(1), frac(3, 2), whole(2), frac(2*fine-1, fine), frac(2*fine+1, fine), whole(5), whole(6), whole(7), whole(most), whole(-most)} {
		for _, c := range append(some(), of(whole(1), moving(), certs(1, held(0, 2, 1)))) {
			for _, i := range []int{0, len(c.Agenda.Heap) - 1} {
				x := c.Agenda.Heap[i]
				if a, e := agenda.Rekey(c.Agenda, x.Handle, at); e == api.OK && x.At != at {
					list = append(list, with(c, func(c *api.Clock) { c.Agenda = a }))
				}
			}
		}
	}
	return list
}

// ofNothing are clocks with an event of no certificate, with or without an element of Due for it, of which all else is right.
func ofNothing() []api.Clock {
	var list []api.Clock
	for _, n := range []int{3, 7, 500, limit - 1, limit} {
		for _, c := range []api.Clock{example(), bare(whole(1), moving()), bare(whole(1), api.Field{})} {
			r := pushed(clone(c), whole(2), n)
			list = append(list, r, with(r, func(r *api.Clock) { r.Due = slices.Clone(c.Due) }))
			list = append(list, with(c, func(c *api.Clock) { c.Due = append(c.Due, api.Due{Number: n}) }))
		}
	}
	for _, n := range []int{0, 5, 10, 12, 17, 19, 20} {
		r := pushed(clone(gapped()), whole(2), n)
		list = append(list, r, with(r, func(r *api.Clock) { r.Due = gapped().Due }))
	}
	return list
}

// badClocks are clocks that are not valid, for each reason, by its name.
func badClocks() map[string][]api.Clock {
	return map[string][]api.Clock{
		"Now is no valid fraction":                      badNow(),
		"a field that is not valid":                     notFields(),
		"a store that is not valid":                     notStores(),
		"a point that is named is not there":            missing(),
		"an agenda that is not valid":                   notAgendas(),
		"another number of slots":                       otherSizes(),
		"one that fails is not in Due, or has no event": notDue(),
		"one that never fails is in Due":                neverFails(),
		"one that failed before is in Due":              failedBefore(),
		"Due in another order":                          otherOrder(),
		"a handle that is not live":                     notLive(),
		"a handle of an event of another number":        otherNumbers(),
		"an event of another time":                      otherTimes(),
		"an event of no certificate":                    ofNothing(),
		"nothing that is right":                         {{}, {Field: moving()}, {Now: whole(1)}, {Now: whole(1), Due: make([]api.Due, 300)}, {Agenda: fresh()}},
	}
}

// allClocks are valid and other ones, in the same order in each run.
func allClocks() []api.Clock {
	list := goodClocks()
	bad := badClocks()
	var reasons []string
	for reason := range bad {
		reasons = append(reasons, reason)
	}
	slices.Sort(reasons)
	for _, reason := range reasons {
		list = append(list, bad[reason]...)
	}
	return list
}

// spoiled is a valid clock in which one thing or two are others, so that it is valid no more, mostly.
func (m *mixer) spoiled(n int) api.Clock {
	c := clone(m.clock(5, n))
	for range 1 + m.below(2) {
		if len(c.Due) == 0 || m.below(3) == 0 {
			m.spoilPart(&c)
		} else {
			m.spoilDue(&c)
		}
	}
	return c
}

func (m *mixer) spoilPart(c *api.Clock) {
	switch m.below(6) {
	case 0:
		c.Now = m.time(c.Field)
	case 1:
		if n := len(c.Field.Points); n > 0 {
			i := m.below(n)
			c.Field.Points[i] = m.point(c.Field.Points[i])
		}
	case 2:
		if n := len(c.Field.Points); n > 0 {
			i := m.below(n)
			c.Field.Points = slices.Delete(c.Field.Points, i, i+1)
		}
	case 3:
		if n := len(c.Certs.List); n > 0 {
			i := m.below(n)
			c.Certs.List = slices.Delete(c.Certs.List, i, i+1)
		}
	case 4:
		c.Certs.Next += m.below(3) - 1
	case 5:
		if a, _, e := agenda.Push(c.Agenda, m.time(c.Field), m.below(c.Certs.Next+2)); e == api.OK {
			c.Agenda = a
		}
	}
}

func (m *mixer) spoilDue(c *api.Clock) {
	i, k := m.below(len(c.Due)), m.below(len(c.Due))
	switch m.below(7) {
	case 0:
		c.Due[i], c.Due[k] = c.Due[k], c.Due[i]
	case 1:
		c.Due[i].Handle, c.Due[k].Handle = c.Due[k].Handle, c.Due[i].Handle
	case 2:
		c.Due[i].Handle.Use += m.below(3) - 1
	case 3:
		c.Due[i].Number += m.below(3) - 1
	case 4:
		c.Due = slices.Delete(c.Due, i, i+1)
	case 5:
		c.Due = append(c.Due, c.Due[k])
	case 6:
		if a, e := agenda.Rekey(c.Agenda, c.Due[i].Handle, m.time(c.Field)); e == api.OK {
			c.Agenda = a
		}
	}
}
