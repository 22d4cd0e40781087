package bracket_test

import (
	"slices"

	"peloton/api"
)

// some are valid brackets with IDs at their first place, at one in between and at the last one.
func some() []api.Bracket {
	m := mixer(12)
	list := []api.Bracket{of(ids(1, 2, -1, 5), 2, 2, 5), of(ids(3, 1, 2), 3, 1), of(ids(0, top), top), rightOne(level(64), whole(0), upTo(64)), rightOne(crowd(33), whole(9), upTo(33))}
	for _, n := range []int{2, 5, 8, 13, 64} {
		list = append(list, m.bracket(m.mixed(upTo(n))))
	}
	return list
}

// placed is a bracket with an ID at a place, with which all winners that had the old one go along: so it is as right as it was, but for this ID.
func placed(b api.Bracket, place, id int) api.Bracket {
	return with(b, func(b *api.Bracket) {
		old := b.Places[place]
		b.Places[place] = id
		for _, i := range pathOf(len(b.Places), place) {
			if b.Wins[i] == old {
				b.Wins[i] = id
			}
		}
	})
}

// noPlaces are brackets without places, with some inner nodes or none.
func noPlaces() []api.Bracket {
	return []api.Bracket{{}, of(ids()), of(nil, ids()...), of(nil, -1), of(nil, 0), of(nil, 1, 2), of(nil, 2, 2, 5), of(nil, empties(63)...)}
}

// tooMany are brackets with more than MaxSize places, of which all else is right.
func tooMany() []api.Bracket {
	var list []api.Bracket
	for _, n := range []int{65, 66, 127, 128, 129, 1000, 5000} {
		list = append(list, of(empties(n), empties(n-1)...), of(upTo(n), make([]int, n-1)...))
		m := mixer(n)
		list = append(list, m.bracket(upTo(n)), m.bracket(slices.Concat(ids(7), empties(n-1))))
	}
	return list
}

// otherInner are brackets with another number of inner nodes than there should be, whose winners are right as far as they are there.
func otherInner() []api.Bracket {
	list := []api.Bracket{of(ids(-1), -1), of(ids(3), 3), of(ids(3), 3, 3), of(ids(3, 4)), of(ids(3, 4), 3, 3), of(ids(3, 4), 4, 3), of(ids(1, 2, -1, 5), 2, 2), of(ids(1, 2, -1, 5), 2, 2, 5, 5), of(empties(64), empties(64)...), of(empties(64), empties(62)...), of(empties(64))}
	for _, b := range some() {
		n := len(b.Wins)
		list = append(list,
			with(b, func(b *api.Bracket) { b.Wins = nil }),
			with(b, func(b *api.Bracket) { b.Wins = b.Wins[:n-1] }),
			with(b, func(b *api.Bracket) { b.Wins = b.Wins[:n/2] }),
			with(b, func(b *api.Bracket) { b.Wins = append(b.Wins, b.Places[0]) }),
			with(b, func(b *api.Bracket) { b.Wins = append(b.Wins, b.Wins...) }),
			with(b, func(b *api.Bracket) { b.Wins = append(b.Wins, make([]int, 1000)...) }),
		)
	}
	return list
}

// notIDs are numbers that no place has.
func notIDs() []int {
	return ids(-2, -3, -1000, least, least+1, -1<<32, -1<<32-1, top+1, top+2, 1<<17, 1<<32, 1<<32-1, most)
}

// out are brackets with an ID that is below -1 or above MaxID, of which all else is right.
func out() []api.Bracket {
	var list []api.Bracket
	for _, id := range notIDs() {
		list = append(list, of(ids(id)), of(ids(id, -1), id), of(ids(-1, id), id), of(ids(id, -1), -1))
		for _, b := range some() {
			for _, i := range ids(0, len(b.Places)/2, len(b.Places)-1) {
				list = append(list, placed(b, i, id), with(b, func(b *api.Bracket) { b.Places[i] = id }))
			}
		}
	}
	return list
}

// sameTwice are brackets with the same ID at two places, of which all else is right.
func sameTwice() []api.Bracket {
	list := []api.Bracket{of(ids(0, 0), 0), of(ids(7, 7), 7), of(ids(top, top), top), of(ids(7, -1, 7), 7, 7), of(ids(-1, 7, 7), 7, 7), of(ids(7, 7, -1), 7, 7), of(ids(7, -1, -1, 7), 7, 7, 7), of(slices.Repeat(ids(5), 64), slices.Repeat(ids(5), 63)...)}
	for _, b := range some() {
		n := len(b.Places)
		for _, pair := range [][2]int{{0, n - 1}, {0, 1}, {n - 2, n - 1}, {n / 2, 0}, {n / 2, n - 1}} {
			if i, k := pair[0], pair[1]; i != k && b.Places[k] != -1 {
				list = append(list, placed(b, i, b.Places[k]))
			}
		}
	}
	return list
}

// strangers are brackets in which the winner of a node is the ID of neither child, and all else is right: one that no place has, one of another place, or one that was below.
func strangers() []api.Bracket {
	list := []api.Bracket{of(ids(1, 2), 3), of(ids(1, 2), 0), of(ids(-1, -1), 0), of(ids(-1, -1), 5), of(ids(-1, 4), 0), of(ids(1, -1), top), of(ids(1, 2), -2), of(ids(1, 2), most), of(ids(-1, -1), least), of(empties(64), make([]int, 63)...)}
	for _, b := range some() {
		for _, i := range ids(0, len(b.Wins)/2, len(b.Wins)-1) {
			x, y := below(b, i)
			for _, id := range slices.Concat(notIDs(), b.Places, ids(0, 999, top)) {
				if id != x && id != y {
					list = append(list, won(b, i, id))
				}
			}
		}
	}
	return list
}

// won is a bracket with another winner of a node, with which the nodes above it go along.
func won(b api.Bracket, node, id int) api.Bracket {
	return with(b, func(b *api.Bracket) {
		old := b.Wins[node]
		b.Wins[node] = id
		for i := node; i > 0 && b.Wins[(i-1)/2] == old; {
			i = (i - 1) / 2
			b.Wins[i] = id
		}
	})
}

// noWinner are brackets in which the winner of a node is -1, one of its children is not, and all else is right.
func noWinner() []api.Bracket {
	list := []api.Bracket{of(ids(1, -1), -1), of(ids(-1, 1), -1), of(ids(-1, 0), -1), of(ids(0, -1), -1), of(ids(-1, -1, -1, 5), -1, -1, -1), of(ids(-1, -1, -1, 5), -1, -1, 5), of(ids(2, -1, -1), -1, -1), of(ids(-1, top, -1), -1, -1), of(ids(1, 2), -1)}
	for _, b := range some() {
		for place := range b.Places {
			// All other places are empty.
			c := of(empties(len(b.Places)), empties(len(b.Wins))...)
			c.Places[place] = b.Places[place]
			if b.Places[place] != -1 {
				list = append(list, c)
			}
			// The winner comes from below up to a node, and is lost above it.
			way := pathOf(len(b.Places), place)
			for _, i := range way[:len(way)-1] {
				c.Wins[i] = b.Places[place]
				if b.Places[place] != -1 {
					list = append(list, clone(c))
				}
			}
		}
	}
	return list
}

// badBrackets are brackets that are not valid, for each reason, by its name.
func badBrackets() map[string][]api.Bracket {
	return map[string][]api.Bracket{
		"no places":                            noPlaces(),
		"too many places":                      tooMany(),
		"another number of inner nodes":        otherInner(),
		"an ID below -1 or above MaxID":        out(),
		"the same ID at two places":            sameTwice(),
		"a winner that neither child has":      strangers(),
		"a winner -1 over a child that is not": noWinner(),
		"nothing that is right":                {of(ids(-2, -2), 7, 8), of(ids(most, most, least), least), of(slices.Repeat(ids(-9), 100), 1, 2), of(make([]int, 70), 4), of(ids(5, 5, top+1), -1, 7, 9)},
	}
}

// allBadBrackets are the same ones, in the same order in each run.
func allBadBrackets() []api.Bracket {
	bad := badBrackets()
	var reasons []string
	for reason := range bad {
		reasons = append(reasons, reason)
	}
	slices.Sort(reasons)
	var list []api.Bracket
	for _, reason := range reasons {
		list = append(list, bad[reason]...)
	}
	return list
}

// spoiled is a stage in whose bracket one thing or two are others, so that it is valid no more, mostly.
func (m *mixer) spoiled(n int) stage {
	s := m.stage(n)
	s.b = clone(s.b)
	for range 1 + m.below(2) {
		m.spoil(&s.b)
	}
	return s
}

func (m *mixer) spoil(b *api.Bracket) {
	i, k := m.below(len(b.Places)), m.below(len(b.Places))
	switch m.below(7) {
	case 0:
		b.Places[i] = m.pick(-2, -1, 0, b.Places[k], top, top+1)
	case 1:
		b.Places[i], b.Places[k] = b.Places[k], b.Places[i]
	case 2:
		b.Wins = append(b.Wins, b.Places[k])
	case 3:
		b.Wins = b.Wins[:max(len(b.Wins)-1, 0)]
	case 4:
		b.Places = append(b.Places, m.pick(-1, b.Places[k], 7))
	default:
		if len(b.Wins) > 0 {
			b.Wins[m.below(len(b.Wins))] = m.pick(-2, -1, b.Places[i], b.Wins[m.below(len(b.Wins))], 7)
		}
	}
}
