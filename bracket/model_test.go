package bracket_test

import (
	"cmp"
	"math/big"
	"slices"

	"peloton/api"
)

// The functions here follow the definitions and the promises word by word: places and times are those of math/big, the nodes above another one are looked for by the children that all nodes have, and the winner of a node is looked for among all places below it.

// isTime follows the definition of a valid fraction.
func isTime(r api.Ratio) bool {
	if r.Den < 1 || r.Num == least {
		return false
	}
	return big.NewRat(r.Num, r.Den).Denom().Cmp(big.NewInt(r.Den)) == 0
}

// fieldError is the error of a field: the one that is named first.
func fieldError(f api.Field) api.Errno {
	if len(f.Points) > 64 {
		return api.ErrMany
	}
	for _, p := range f.Points {
		if p.ID < 0 || p.ID > 65535 || max(p.A, p.B) > 1<<20 || min(p.A, p.B) < -1<<20 {
			return api.ErrBad
		}
	}
	for i, p := range f.Points {
		if i > 0 && f.Points[i-1].ID >= p.ID {
			return api.ErrOrder
		}
	}
	return api.OK
}

// point is the point with an ID, if it is there.
func point(f api.Field, id int) (api.Point, bool) {
	for _, p := range f.Points {
		if p.ID == id {
			return p, true
		}
	}
	return api.Point{}, false
}

// place is where a point is at a time.
func place(p api.Point, t api.Ratio) *big.Rat {
	way := new(big.Rat).Mul(big.NewRat(p.B, 1), big.NewRat(t.Num, t.Den))
	return way.Add(way, big.NewRat(p.A, 1))
}

// isAhead reports whether p is ahead of q: by its place, then by its speed, then by its ID.
func isAhead(p, q api.Point, t api.Ratio) bool {
	return cmp.Or(place(q, t).Cmp(place(p, t)), cmp.Compare(q.B, p.B), cmp.Compare(p.ID, q.ID)) < 0
}

// winnerOf is the ID, of some that a field has, whose point is ahead of all others; -1 if all of them are -1.
func winnerOf(f api.Field, t api.Ratio, list ...int) int {
	best := -1
	for _, id := range list {
		p, _ := point(f, id)
		q, _ := point(f, best)
		if id != -1 && (best == -1 || isAhead(p, q, t)) {
			best = id
		}
	}
	return best
}

// idAt is the ID of a node.
func idAt(b api.Bracket, node int) int {
	if node >= len(b.Wins) {
		return b.Places[node-len(b.Wins)]
	}
	return b.Wins[node]
}

// below are the IDs of the children of an inner node.
func below(b api.Bracket, node int) (int, int) {
	return idAt(b, 2*node+1), idAt(b, 2*node+2)
}

// under are the IDs of all places below a node, or its own one.
func under(places []int, node int) []int {
	wins := len(places) - 1
	if node >= wins {
		return ids(places[node-wins])
	}
	return slices.Concat(under(places, 2*node+1), under(places, 2*node+2))
}

// pathOf are the inner nodes above a place, from below to the root.
func pathOf(places, place int) []int {
	wins := places - 1
	node := wins + place
	var list []int
	for {
		above := -1
		for i := range wins {
			if 2*i+1 == node || 2*i+2 == node {
				above = i
			}
		}
		if above == -1 {
			return list
		}
		list = append(list, above)
		node = above
	}
}

// isValid follows the definition of a valid bracket.
func isValid(b api.Bracket) bool {
	if len(b.Places) < 1 || len(b.Places) > 64 || len(b.Wins) != len(b.Places)-1 {
		return false
	}
	for i, id := range b.Places {
		if id < -1 || id > 65535 || id != -1 && slices.Contains(b.Places[:i], id) {
			return false
		}
	}
	for i, id := range b.Wins {
		l, r := below(b, i)
		if id != l && id != r || id == -1 && (l != -1 || r != -1) {
			return false
		}
	}
	return true
}

// idsError is the error of the IDs of places: each one should be -1, or one that the field has, and none of these should be there twice.
func idsError(f api.Field, places []int) api.Errno {
	for _, id := range places {
		if _, ok := point(f, id); id != -1 && !ok {
			return api.ErrNone
		}
	}
	for i, id := range places {
		if id != -1 && slices.Contains(places[:i], id) {
			return api.ErrTwice
		}
	}
	return api.OK
}

// rightOne is the bracket with some places that is right for a field at a time.
func rightOne(f api.Field, t api.Ratio, places []int) api.Bracket {
	b := of(slices.Clone(places))
	for i := range len(places) - 1 {
		b.Wins = append(b.Wins, winnerOf(f, t, under(places, i)...))
	}
	return b
}

// built is what Build returns.
func built(f api.Field, t api.Ratio, places []int) (api.Bracket, api.Errno) {
	if e := fieldError(f); e != api.OK {
		return api.Bracket{}, e
	}
	if !isTime(t) {
		return api.Bracket{}, api.ErrBad
	}
	if len(places) < 1 || len(places) > 64 {
		return api.Bracket{}, api.ErrArg
	}
	if e := idsError(f, places); e != api.OK {
		return api.Bracket{}, e
	}
	return rightOne(f, t, places), api.OK
}

// root is what Winner returns for a valid bracket.
func root(b api.Bracket) (int, api.Errno) {
	id := idAt(b, 0)
	if id == -1 {
		return 0, api.ErrEmpty
	}
	return id, api.OK
}

// afterSetting is what Set returns for a valid bracket.
func afterSetting(b api.Bracket, f api.Field, t api.Ratio, place, id int) (api.Bracket, []int, api.Errno) {
	if e := fieldError(f); e != api.OK {
		return api.Bracket{}, nil, e
	}
	if !isTime(t) {
		return api.Bracket{}, nil, api.ErrBad
	}
	if place < 0 || place >= len(b.Places) {
		return api.Bracket{}, nil, api.ErrArg
	}
	others := slices.Delete(slices.Clone(b.Places), place, place+1)
	if idsError(f, ids(id)) != api.OK || idsError(f, others) != api.OK {
		return api.Bracket{}, nil, api.ErrNone
	}
	if id != -1 && slices.Contains(others, id) {
		return api.Bracket{}, nil, api.ErrTwice
	}
	r := with(b, func(b *api.Bracket) { b.Places[place] = id })
	var changed []int
	for _, i := range pathOf(len(b.Places), place) {
		x, y := below(r, i)
		r.Wins[i] = winnerOf(f, t, x, y)
		if r.Wins[i] != b.Wins[i] {
			changed = append(changed, i)
		}
	}
	return r, changed, api.OK
}

// isRight follows the definition of a bracket that is right for a field that has all its IDs.
func isRight(b api.Bracket, f api.Field, t api.Ratio) bool {
	for i, id := range b.Wins {
		x, y := below(b, i)
		if id != winnerOf(f, t, x, y) {
			return false
		}
	}
	return true
}

// whetherRight is what Right returns for a valid bracket.
func whetherRight(b api.Bracket, f api.Field, t api.Ratio) (bool, api.Errno) {
	if e := fieldError(f); e != api.OK {
		return false, e
	}
	if !isTime(t) {
		return false, api.ErrBad
	}
	if idsError(f, b.Places) != api.OK {
		return false, api.ErrNone
	}
	return isRight(b, f, t), api.OK
}

// wayUp is what Path returns for a valid bracket.
func wayUp(b api.Bracket, place int) ([]int, api.Errno) {
	if place < 0 || place >= len(b.Places) {
		return nil, api.ErrArg
	}
	return pathOf(len(b.Places), place), api.OK
}
