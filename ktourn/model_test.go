package ktourn_test

import (
	"cmp"
	"math/big"
	"slices"

	"peloton/api"
	"peloton/clock"
	"peloton/kheap"
)

// The functions here follow the definitions and the promises word by word: times and places are those of math/big, and a winner is looked for among all places below its node. Whether a clock is valid is told by layer 9, and what is done with it is done by its functions; it is renewed by layer 13.

// isTime follows the definition of a valid fraction.
func isTime(r api.Ratio) bool {
	if r.Den < 1 || r.Num == least {
		return false
	}
	return big.NewRat(r.Num, r.Den).Denom().Cmp(big.NewInt(r.Den)) == 0
}

func exact(r api.Ratio) *big.Rat {
	return big.NewRat(r.Num, r.Den)
}

func compare(a, b api.Ratio) int {
	return exact(a).Cmp(exact(b))
}

// ratio is a fraction in lowest terms.
func ratio(num, den int64) api.Ratio {
	x := big.NewRat(num, den)
	return frac(x.Num().Int64(), x.Denom().Int64())
}

// fieldError is the error of a field: the one that is named first.
func fieldError(f api.Field) api.Errno {
	if len(f.Points) > 64 {
		return api.ErrMany
	}
	for _, p := range f.Points {
		if p.ID < 0 || p.ID > 65535 || max(p.A, p.B) > 1<<20 || min(p.A, p.B) < -1<<20 {
			return api.ErrBad
		}
	}
	for i, p := range f.Points {
		if i > 0 && f.Points[i-1].ID >= p.ID {
			return api.ErrOrder
		}
	}
	return api.OK
}

// point is the point with an ID, if it is there.
func point(f api.Field, id int) (api.Point, bool) {
	for _, p := range f.Points {
		if p.ID == id {
			return p, true
		}
	}
	return api.Point{}, false
}

// isCert follows the definition of a valid certificate.
func isCert(x api.Cert) bool {
	return min(x.Low, x.High) >= 0 && max(x.Low, x.High) <= 65535 && x.Low != x.High
}

// hasAll reports whether a field has all points that certificates name.
func hasAll(f api.Field, list []api.Cert) bool {
	for _, x := range list {
		for _, id := range []int{x.Low, x.High} {
			if _, ok := point(f, id); !ok {
				return false
			}
		}
	}
	return true
}

// place is where a point is at a time.
func place(p api.Point, t api.Ratio) *big.Rat {
	way := new(big.Rat).Mul(big.NewRat(p.B, 1), exact(t))
	return way.Add(way, big.NewRat(p.A, 1))
}

// isAhead reports whether p is ahead of q: by its place, then by its speed, then by its ID.
func isAhead(p, q api.Point, t api.Ratio) bool {
	return cmp.Or(place(q, t).Cmp(place(p, t)), cmp.Compare(q.B, p.B), cmp.Compare(p.ID, q.ID)) < 0
}

// holds reports whether the point High is ahead of the point Low at a time; the field has both.
func holds(f api.Field, x api.Cert, t api.Ratio) bool {
	high, _ := point(f, x.High)
	low, _ := point(f, x.Low)
	return isAhead(high, low, t)
}

// meeting is when two points with different speeds are at the same place.
func meeting(p, q api.Point) api.Ratio {
	return ratio(q.A-p.A, p.B-q.B)
}

// failure is the failure time of a certificate that holds at a time, if there is one; the field has both points.
func failure(f api.Field, x api.Cert) (api.Ratio, bool) {
	high, _ := point(f, x.High)
	low, _ := point(f, x.Low)
	if low.B > high.B {
		return meeting(high, low), true
	}
	return api.Ratio{}, false
}

// sizes are the powers of 2 that the number of places may be.
func sizes() []int {
	return numbers(1, 2, 4, 8, 16, 32, 64)
}

// below are the IDs of the places below a node, or that of the node if it is a place, from left to right.
func below(places []int, node int) []int {
	if inner := len(places) - 1; node >= inner {
		return places[node-inner : node-inner+1]
	}
	return slices.Concat(below(places, 2*node+1), below(places, 2*node+2))
}

// best is the one of some IDs that is ahead of all others, or -1 if all are this.
func best(ids []int, f api.Field, t api.Ratio) int {
	ids = idsAt(ids)
	for _, id := range ids {
		if !slices.ContainsFunc(ids, func(other int) bool { return other != id && holds(f, over(other, id), t) }) {
			return id
		}
	}
	return -1
}

// idsAt are the IDs of the places that are not empty.
func idsAt(places []int) []int {
	return slices.DeleteFunc(slices.Clone(places), func(id int) bool { return id == -1 })
}

// winners are those of all inner nodes above some places: of the IDs of both children of a node the one that is ahead wins, so it is the one that is ahead of all below it.
func winners(places []int, f api.Field, t api.Ratio) []int {
	var list []int
	for i := range len(places) - 1 {
		list = append(list, best(below(places, i), f, t))
	}
	return list
}

// idOf is the ID of a node of a bracket.
func idOf(b api.Bracket, node int) int {
	if node < len(b.Wins) {
		return b.Wins[node]
	}
	return b.Places[node-len(b.Wins)]
}

// edgesOf are the edges of a bracket.
func edgesOf(b api.Bracket) []api.Cert {
	var list []api.Cert
	for i, id := range b.Wins {
		left, right := idOf(b, 2*i+1), idOf(b, 2*i+2)
		switch {
		case left == -1 || right == -1:
		case id == left:
			list = append(list, over(left, right))
		default:
			list = append(list, over(right, left))
		}
	}
	return list
}

func certsOf(c api.Clock) []api.Cert {
	var list []api.Cert
	for _, h := range c.Certs.List {
		list = append(list, h.Cert)
	}
	return list
}

// order are the same certificates in one order.
func order(list []api.Cert) []api.Cert {
	return slices.SortedFunc(slices.Values(list), func(x, y api.Cert) int {
		return cmp.Or(cmp.Compare(x.High, y.High), cmp.Compare(x.Low, y.Low))
	})
}

// isValid follows the definition of a kinetic tournament that is valid.
func isValid(k api.KTourn) bool {
	f, places := k.Clock.Field, k.Bracket.Places
	if clock.Check(k.Clock) != api.OK || !slices.Contains(sizes(), len(places)) || !slices.Equal(slices.Sorted(slices.Values(idsAt(places))), idsOf(f)) {
		return false
	}
	// A bracket that is right is valid, too.
	if !slices.Equal(k.Bracket.Wins, winners(places, f, k.Clock.Now)) {
		return false
	}
	return slices.Equal(order(edgesOf(k.Bracket)), order(certsOf(k.Clock)))
}

// matched is the tournament of a field, some places, and a clock that is renewed for the edges at its Now.
func matched(c api.Clock, places []int) (api.KTourn, api.Errno) {
	b := api.Bracket{Places: slices.Clone(places), Wins: winners(places, c.Field, c.Now)}
	c, e := kheap.Renew(c, c.Field, edgesOf(b))
	if e != api.OK {
		return api.KTourn{}, e
	}
	return api.KTourn{Clock: c, Bracket: b}, api.OK
}

// made is what Build returns.
func made(f api.Field, t api.Ratio) (api.KTourn, api.Errno) {
	if e := fieldError(f); e != api.OK {
		return api.KTourn{}, e
	}
	if !isTime(t) {
		return api.KTourn{}, api.ErrBad
	}
	places := idsOf(f)
	for !slices.Contains(sizes(), len(places)) {
		places = append(places, -1)
	}
	c, e := clock.New(f, t)
	if e != api.OK {
		panic("a clock that cannot be made")
	}
	k, e := matched(c, places)
	if e != api.OK {
		panic("a tournament that cannot be made")
	}
	return k, api.OK
}

// leader is what Leader returns for a valid tournament, told by its field alone.
func leader(k api.KTourn) (int, api.Errno) {
	f := k.Clock.Field
	if len(f.Points) == 0 {
		return 0, api.ErrEmpty
	}
	return best(idsOf(f), f, k.Clock.Now), api.OK
}

// nextDue is the certificate of a valid clock that fails first, up to a time, if one does; all of them hold at Now, and of those that fail at the same time it has the least number.
func nextDue(c api.Clock, to api.Ratio) (api.Held, bool) {
	var first api.Held
	var when api.Ratio
	found := false
	for _, h := range c.Certs.List {
		at, fails := failure(c.Field, h.Cert)
		if fails && compare(at, to) <= 0 && (!found || compare(at, when) < 0) {
			first, when, found = h, at, true
		}
	}
	return first, found
}

// timeError is the error of a time to which a valid clock should go.
func timeError(c api.Clock, to api.Ratio) api.Errno {
	if !isTime(to) {
		return api.ErrBad
	}
	if compare(to, c.Now) < 0 {
		return api.ErrPast
	}
	return api.OK
}

// advanced is what Advance returns.
func advanced(k api.KTourn, to api.Ratio) (api.KTourn, []api.Cert, api.Errno) {
	if !isValid(k) {
		return api.KTourn{}, nil, api.ErrBad
	}
	if e := timeError(k.Clock, to); e != api.OK {
		return api.KTourn{}, nil, e
	}
	k = clone(k)
	var failed []api.Cert
	for {
		h, due := nextDue(k.Clock, to)
		if !due {
			break
		}
		c, y, x, e := clock.Fail(k.Clock, to)
		if e != api.OK || y.Number != h.Number || x != h.Cert {
			panic("another certificate fails")
		}
		failed = append(failed, x)
		if k, e = matched(c, k.Bracket.Places); e != api.OK {
			return api.KTourn{}, nil, api.ErrFull
		}
	}
	c, e := clock.Move(k.Clock, to)
	if e != api.OK {
		panic("a clock that cannot be moved")
	}
	k.Clock = c
	return k, failed, api.OK
}
