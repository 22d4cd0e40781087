package ktourn_test

import (
	"maps"
	"slices"

	"peloton/agenda"
	"peloton/api"
	"peloton/clock"
)

// badTimes are fractions that are not valid, each one for another reason.
func badTimes() []api.Ratio {
	return []api.Ratio{
		{}, frac(1, 0), frac(0, 2), frac(0, -1), frac(2, 2), frac(6, 4), frac(-6, 4), frac(3, -2), frac(least, 1), frac(least, 3), frac(1, least), frac(least, least), frac(most, most),
	}
}

// badPoints are points that are not valid, each one for another reason.
func badPoints() []api.Point {
	return []api.Point{
		pt(-1, 0, 0), pt(top+1, 0, 0), pt(least, 0, 0), pt(most, 0, 0), pt(4, coord+1, 0), pt(4, -coord-1, 0), pt(4, 0, coord+1), pt(4, 0, -coord-1), pt(4, most, least),
	}
}

// badFields are fields that are not valid, with the error of each one: too many points, a point that is not valid, IDs that do not increase, and several of these. Most of them have the points 1, 2 and 5.
func badFields() map[api.Errno][]api.Field {
	p := moving().Points
	list := map[api.Errno][]api.Field{
		api.ErrMany: {
			many(65, 0, func(i int64) (a, b int64) { return i, -i }), many(65, top-64, func(i int64) (a, b int64) { return i, -i }),
			{Points: make([]api.Point, 65)}, {Points: make([]api.Point, 5000)}, {Points: slices.Repeat(badPoints(), 9)}, {Points: slices.Concat(p, many(62, 6, func(i int64) (a, b int64) { return i, 0 }).Points)},
		},
		api.ErrBad:   {points(pt(5, 0, 0), pt(5, 0, 0), pt(-1, 0, 0)), {Points: slices.Repeat(badPoints(), 4)}},
		api.ErrOrder: {points(p[0], p[1], p[1], p[2]), points(p[1], p[0], p[2]), points(p[0], p[2], p[1]), points(p[0], p[1], p[2], p[0]), points(pt(1, 0, 0), pt(1, 0, 1)), {Points: make([]api.Point, 64)}},
	}
	for _, q := range badPoints() {
		list[api.ErrBad] = append(list[api.ErrBad], points(q), points(q, p[0], p[1], p[2]), points(p[0], p[1], q, p[2]), points(p[0], p[1], p[2], q))
	}
	return list
}

// busy is a valid tournament of some points at a time, with two events or more.
func (m *mixer) busy(now api.Ratio, f api.Field) api.KTourn {
	for {
		if k := m.tournOf(now, f); len(k.Clock.Due) > 1 {
			return k
		}
	}
}

// some are valid tournaments with several certificates, of which some have events.
func some() []api.KTourn {
	m := mixer(152)
	six, _ := made(crowd(6), whole(1))
	return []api.KTourn{early(), six, tournOf(whole(0), moving(), -1, 5, 2, -1, 1, -1, -1, -1), m.busy(whole(0), moving()), m.busy(whole(3), crowd(9)), m.busy(frac(-1, 2), level(20)), m.busy(frac(7, 2), crowd(16))}
}

// changed are some tournaments after a change of their clocks.
func changed(change func(c *api.Clock)) []api.KTourn {
	var list []api.KTourn
	for _, k := range some() {
		list = append(list, with(k, func(k *api.KTourn) { change(&k.Clock) }))
	}
	return list
}

// rekeyed is an agenda in which an event has another time.
func rekeyed(a api.Agenda, i int, at api.Ratio) api.Agenda {
	r, e := agenda.Rekey(a, a.Heap[i].Handle, at)
	if e != api.OK {
		panic("an event that cannot be rekeyed")
	}
	return r
}

// badClocks are tournaments whose clock is not valid, for each reason, by its name, of which all else is right.
func badClocks() map[string][]api.KTourn {
	var now, fields []api.KTourn
	for _, at := range badTimes() {
		now = append(now, changed(func(c *api.Clock) { c.Now = at })...)
	}
	for _, list := range badFields() {
		for _, f := range list {
			fields = append(fields, with(early(), func(k *api.KTourn) { k.Clock.Field, k.Bracket = f, api.Bracket{Places: idsOf(f), Wins: idsOf(f)[1:]} }), with(early(), func(k *api.KTourn) { k.Clock.Field = f }))
		}
	}
	return map[string][]api.KTourn{
		"Now is no valid fraction":       now,
		"a field that is not valid":      fields,
		"another number of certificates": slices.Concat(changed(func(c *api.Clock) { c.Certs.Next = limit + 1 }), changed(func(c *api.Clock) { c.Certs.Next = 0 })),
		"a certificate twice":            changed(func(c *api.Clock) { c.Certs.List = append(c.Certs.List, c.Certs.List[0]) }),
		"numbers in another order":       changed(func(c *api.Clock) { slices.Reverse(c.Certs.List) }),
		"a certificate that is not valid": slices.Concat(
			changed(func(c *api.Clock) { c.Certs.List[0].Cert.Low = c.Certs.List[0].Cert.High }), changed(func(c *api.Clock) { c.Certs.List[1].Cert.High = -1 })),
		"a point that is named is not there":  changed(func(c *api.Clock) { c.Field = without(c.Field, c.Certs.List[0].Cert.Low) }),
		"another number of slots":             changed(func(c *api.Clock) { c.Agenda.Where = c.Agenda.Where[:slots-1] }),
		"no agenda":                           changed(func(c *api.Clock) { c.Agenda = api.Agenda{} }),
		"no events":                           changed(func(c *api.Clock) { c.Agenda = fresh(0) }),
		"no events at all":                    changed(func(c *api.Clock) { c.Agenda, c.Due = fresh(0), nil }),
		"events in another order":             changed(func(c *api.Clock) { slices.Reverse(c.Agenda.Heap) }),
		"one that fails is not in Due":        changed(func(c *api.Clock) { c.Due = c.Due[1:] }),
		"one is in Due twice":                 changed(func(c *api.Clock) { c.Due = append(c.Due, c.Due[0]) }),
		"a handle that is not live":           changed(func(c *api.Clock) { c.Due[0].Handle.Use++ }),
		"a handle of an event of another one": changed(func(c *api.Clock) { c.Due[0].Handle, c.Due[1].Handle = c.Due[1].Handle, c.Due[0].Handle }),
		"an event of another time":            changed(func(c *api.Clock) { c.Agenda = rekeyed(c.Agenda, 0, c.Now) }),
		"an event of a later time":            changed(func(c *api.Clock) { c.Agenda = rekeyed(c.Agenda, 0, whole(most)) }),
		"nothing that is right":               {{}, {Bracket: early().Bracket}, {Clock: api.Clock{Now: whole(1)}}, {Clock: api.Clock{Now: whole(0), Field: moving()}, Bracket: early().Bracket}, {Bracket: api.Bracket{Places: numbers(-1)}}, {Bracket: api.Bracket{Places: numbers(least, most), Wins: make([]int, 99)}}},
	}
}

// lateNow are tournaments at a time behind an event, of which all else is right.
func lateNow() []api.KTourn {
	var list []api.KTourn
	for _, k := range some() {
		at := k.Clock.Agenda.Heap[0].At
		for _, now := range []api.Ratio{at, ratio(1024*at.Num+1, 1024*at.Den), whole(at.Num + 1), whole(most)} {
			list = append(list, with(k, func(k *api.KTourn) { k.Clock.Now = now }))
		}
	}
	return list
}

// noPlaces are tournaments without places, with some inner nodes or none, of which all else is right.
func noPlaces() []api.KTourn {
	var list []api.KTourn
	for _, c := range []api.Clock{clockOf(whole(0), api.Field{}), clockOf(whole(0), points(pt(3, 0, 0))), clockOf(whole(0), moving()), early().Clock, late().Clock} {
		for _, wins := range [][]int{nil, numbers(-1), numbers(3), numbers(2, 2, 5), numbers(1, 1, 5)} {
			list = append(list, api.KTourn{Clock: c, Bracket: api.Bracket{Wins: wins}})
		}
	}
	return list
}

// otherInner are tournaments with another number of inner nodes than there should be, of which all else is right.
func otherInner() []api.KTourn {
	lone := tournOf(whole(0), points(pt(3, 0, 0)), 3)
	none := tournOf(whole(0), api.Field{}, -1)
	list := []api.KTourn{with(lone, func(k *api.KTourn) { k.Bracket.Wins = numbers(3) }), with(lone, func(k *api.KTourn) { k.Bracket.Wins = numbers(-1) }), with(none, func(k *api.KTourn) { k.Bracket.Wins = numbers(-1) })}
	for _, k := range some() {
		n := len(k.Bracket.Wins)
		for _, wins := range [][]int{nil, k.Bracket.Wins[:n-1], k.Bracket.Wins[1:], append(slices.Clone(k.Bracket.Wins), k.Bracket.Wins[0]), append(slices.Clone(k.Bracket.Wins), -1), slices.Repeat(k.Bracket.Wins, 500)} {
			list = append(list, with(k, func(k *api.KTourn) { k.Bracket.Wins = slices.Clone(wins) }))
		}
	}
	return list
}

// otherSizes are tournaments whose number of places is no power of 2, or a greater one than there may be, of which all else is right.
func otherSizes() []api.KTourn {
	list := []api.KTourn{
		tournOf(whole(0), moving(), 1, 2, 5), tournOf(whole(0), moving(), 2, 5, 1), tournOf(whole(0), moving(), 5, -1, -1, 1, 2), tournOf(whole(0), moving(), -1, 5, 1, 2, -1, -1), tournOf(whole(0), points(pt(3, 0, 0)), 3, -1, -1), tournOf(whole(0), api.Field{}, empties(3)...),
	}
	for _, n := range []int{3, 5, 6, 7, 9, 10, 12, 14, 15, 17, 24, 31, 33, 48, 60, 62, 63, 65, 66, 96, 127, 128, 129, 256, 4096} {
		list = append(list, tournOf(whole(0), api.Field{}, empties(n)...), tournOf(whole(0), points(pt(3, 0, 0)), slices.Concat(empties(n-1), numbers(3))...))
		if m := n / 2; m <= 64 {
			list = append(list, tournOf(whole(0), crowd(m), slices.Concat(idsOf(crowd(m)), empties(n-m))...))
		}
		if n <= 64 {
			list = append(list, tournOf(whole(0), crowd(n), idsOf(crowd(n))...))
		}
	}
	return list
}

// placed is a tournament of the same points with another ID at a place, and of which all else is as right as it can be.
func placed(k api.KTourn, i, id int) api.KTourn {
	places := slices.Clone(k.Bracket.Places)
	places[i] = id
	return tournOf(k.Clock.Now, k.Clock.Field, places...)
}

// lacking are tournaments without an ID, of which all else is right as far as it can be.
func lacking() []api.KTourn {
	list := []api.KTourn{tournOf(whole(0), moving(), 2, 1), tournOf(whole(0), moving(), 2, -1, -1, 5), tournOf(whole(0), moving(), 1, 5, -1, -1), tournOf(whole(0), moving(), 2), tournOf(whole(0), moving(), -1), tournOf(whole(0), moving(), empties(4)...), tournOf(whole(0), points(pt(0, 0, 0)), -1)}
	for _, k := range some() {
		for i, id := range k.Bracket.Places {
			if id != -1 {
				list = append(list, placed(k, i, -1), with(k, func(k *api.KTourn) { k.Bracket.Places[i] = -1 }))
			}
		}
	}
	return list
}

// doubled are tournaments that have an ID twice, at an empty place or in the place of another one, of which all else is right as far as it can be; in some of them the same pair meets at several nodes.
func doubled() []api.KTourn {
	two := points(pt(1, 0, 2), pt(2, 6, -1))
	list := []api.KTourn{
		tournOf(whole(0), two, 1, 2, 1, 2), tournOf(whole(0), two, 1, 2, 2, 1), tournOf(whole(0), two, 1, 1, 2, 2), tournOf(whole(0), two, 1, 2, 2, -1), tournOf(whole(0), points(pt(3, 0, 0)), 3, 3), tournOf(whole(0), points(pt(3, 0, 0)), 3, -1, -1, 3),
		tournOf(whole(0), two, slices.Repeat(numbers(1, 2), 32)...), tournOf(whole(0), moving(), 1, 2, 5, 1), tournOf(whole(0), moving(), 1, 2, 5, 2), tournOf(whole(0), moving(), 1, 2, 5, 5), tournOf(whole(0), moving(), 1, 2, 2, -1),
	}
	for _, k := range some() {
		n := len(k.Bracket.Places)
		for i, id := range k.Bracket.Places {
			for _, j := range numbers(0, n/2, n-1, (i+1)%n) {
				if id != -1 && k.Bracket.Places[j] != id {
					list = append(list, placed(k, j, id), with(k, func(k *api.KTourn) { k.Bracket.Places[j] = id }))
				}
			}
		}
	}
	return list
}

// strange are tournaments that have an ID that the field has not, at an empty place or in the place of another one, of which all else is right as far as it can be.
func strange() []api.KTourn {
	var list []api.KTourn
	for _, id := range []int{-2, least, 0, 3, 4, top, top + 1, most, 1<<32 + 1, 1<<32 + 2} {
		list = append(list, tournOf(whole(0), api.Field{}, id), tournOf(whole(0), points(pt(1, 0, 0)), id), tournOf(whole(0), points(pt(1, 0, 0)), 1, id), tournOf(whole(0), points(pt(1, 0, 0)), id, -1, -1, 1))
		for _, k := range []api.KTourn{early(), late(), tournOf(whole(0), moving(), -1, 5, 2, -1, 1, -1, -1, -1)} {
			for i := range k.Bracket.Places {
				list = append(list, placed(k, i, id), with(k, func(k *api.KTourn) { k.Bracket.Places[i] = id }))
			}
		}
	}
	return list
}

// won is the tournament over the same places in which another one wins at a node, and above it wherever the one wins that won there, and of which all else is right as far as it can be.
func won(k api.KTourn, node, id int) api.KTourn {
	b := cloneBracket(k.Bracket)
	old := b.Wins[node]
	b.Wins[node] = id
	for i := node; i > 0 && b.Wins[(i-1)/2] == old; {
		i = (i - 1) / 2
		b.Wins[i] = id
	}
	return tournWith(k.Clock.Now, k.Clock.Field, b)
}

// loser is the ID of the child of an inner node that does not win there.
func loser(b api.Bracket, node int) int {
	if left := idOf(b, 2*node+1); left != b.Wins[node] {
		return left
	}
	return idOf(b, 2*node+2)
}

// otherWinners are tournaments with a winner that is the one of another time, or of no time, or none, and whose certificates are the edges of this bracket, of which all else is right.
func otherWinners() map[string][]api.KTourn {
	var behind, never, nobody []api.KTourn
	for _, k := range some() {
		for i, id := range k.Bracket.Wins {
			if other := loser(k.Bracket, i); other != -1 {
				behind = append(behind, won(k, i, other))
			}
			if id != -1 {
				nobody = append(nobody, won(k, i, -1))
			}
			for j, other := range slices.Concat(k.Bracket.Places, numbers(-2, 700, top, most, least)) {
				if other != id && other != loser(k.Bracket, i) && other != -1 && (i+j)%8 == 0 {
					never = append(never, won(k, i, other), with(k, func(k *api.KTourn) { k.Bracket.Wins[i] = other }))
				}
			}
		}
		places, f, first := k.Bracket.Places, k.Clock.Field, k.Clock.Agenda.Heap[0].At
		behind = append(behind, tournWith(k.Clock.Now, f, bracketOf(first, f, places...)), tournWith(first, f, k.Bracket), tournWith(whole(most), f, k.Bracket), tournWith(k.Clock.Now, f, bracketOf(whole(most), f, places...)))
	}
	equals := points(pt(3, 1, 1), pt(4, 1, 1))
	behind = append(behind, tournWith(frac(2*fine-1, fine), moving(), late().Bracket), tournWith(whole(0), equals, api.Bracket{Places: numbers(3, 4), Wins: numbers(4)}))
	return map[string][]api.KTourn{"a winner that is behind": behind, "a winner of neither child": never, "a winner that is none": nobody}
}

// unlike are tournaments whose certificates are not their edges, of which all else is right: one less, one more, or others.
func unlike() map[string][]api.KTourn {
	var less, more, other []api.KTourn
	for _, k := range some() {
		for _, h := range k.Clock.Certs.List {
			c, _ := clock.Retire(k.Clock, h.Number)
			less = append(less, clocked(k, c))
			for _, x := range certs(over(h.Cert.Low, h.Cert.High), over(h.Cert.High, k.Bracket.Wins[0]), over(k.Bracket.Wins[0], h.Cert.Low)) {
				if r, _, e := clock.Certify(c, x); e == api.OK && x != h.Cert {
					other = append(other, clocked(k, r))
				}
			}
		}
		less = append(less, clocked(k, clockOf(k.Clock.Now, k.Clock.Field)))
		for _, p := range k.Clock.Field.Points {
			for _, q := range k.Clock.Field.Points {
				if c, _, e := clock.Certify(k.Clock, over(p.ID, q.ID)); e == api.OK {
					more = append(more, clocked(k, c))
				}
			}
		}
		// The same points at other places have other matches.
		for i := range len(k.Bracket.Places) {
			places := slices.Clone(k.Bracket.Places)
			slices.Reverse(places[i:])
			other = append(other, api.KTourn{Clock: k.Clock, Bracket: bracketOf(k.Clock.Now, k.Clock.Field, places...)})
		}
	}
	other = slices.DeleteFunc(other, isValid)
	return map[string][]api.KTourn{"an edge that is no certificate": less, "a certificate that is no edge": more, "other certificates than edges": other}
}

// badButClocks are tournaments that are not valid though their clocks are, for each reason, by its name.
func badButClocks() map[string][]api.KTourn {
	list := unlike()
	maps.Copy(list, otherWinners())
	list["no places"] = noPlaces()
	list["another number of inner nodes"] = otherInner()
	list["another number of places"] = otherSizes()
	list["an ID is not there"] = lacking()
	list["an ID is there twice"] = doubled()
	list["an ID that the field has not"] = strange()
	return list
}

// badTourns are tournaments that are not valid, for each reason, by its name.
func badTourns() map[string][]api.KTourn {
	list := badClocks()
	maps.Copy(list, badButClocks())
	list["Now behind an event"] = lateNow()
	return list
}

// fewBadTourns are some of them, in the same order in each run.
func fewBadTourns() []api.KTourn {
	var list []api.KTourn
	bad := badTourns()
	for _, reason := range slices.Sorted(maps.Keys(bad)) {
		all := bad[reason]
		for i := 0; i < len(all); i += 1 + len(all)/9 {
			list = append(list, all[i])
		}
	}
	return list
}

// spoiled is a valid tournament in which one thing or two are others, so that it is valid no more, mostly.
func (m *mixer) spoiled(n int) api.KTourn {
	k := clone(m.tourn(n))
	for range 1 + m.below(2) {
		places, wins := k.Bracket.Places, k.Bracket.Wins
		i, j := m.below(len(places)), m.below(len(places))
		switch m.below(8) {
		case 0:
			places[i], places[j] = places[j], places[i]
		case 1:
			places[i] = m.pick(-1, m.below(9))
		case 2:
			if len(wins) > 0 {
				wins[i%len(wins)] = m.pick(-1, places[j])
			}
		case 3:
			k.Clock.Now = m.time(k.Clock.Field)
		case 4:
			k.Clock.Field = m.other(k.Clock.Field, 1)
		case 5:
			if c, _, e := clock.Certify(k.Clock, over(m.below(9), m.below(9))); e == api.OK {
				k.Clock = c
			}
		case 6:
			if l := k.Clock.Certs.List; len(l) > 0 {
				k.Clock, _ = clock.Retire(k.Clock, l[i%len(l)].Number)
			}
		case 7:
			// Places are taken away or put in behind the others; those that are there have the winners at Now.
			places = slices.Concat(places, empties(m.below(9)))[:1+m.below(len(places))]
			k.Bracket = bracketOf(k.Clock.Now, k.Clock.Field, places...)
		}
	}
	return k
}
