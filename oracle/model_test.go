package oracle_test

import (
	"cmp"
	"math/big"
	"slices"

	"peloton/api"
)

// The functions here follow the definitions word by word, with the numbers of math/big, and call no layer.

// isTime follows the definition of a valid fraction.
func isTime(r api.Ratio) bool {
	if r.Den < 1 || r.Num == least {
		return false
	}
	return big.NewRat(r.Num, r.Den).Denom().Cmp(big.NewInt(r.Den)) == 0
}

// timeError is the error of a time that should be one that is asked for.
func timeError(r api.Ratio) api.Errno {
	if !isTime(r) {
		return api.ErrBad
	}
	if r.Num > 1<<30 || r.Num < -1<<30 || r.Den > 1024 {
		return api.ErrArg
	}
	return api.OK
}

func isPoint(p api.Point) bool {
	return p.ID >= 0 && p.ID <= 65535 && max(p.A, p.B) <= 1<<20 && min(p.A, p.B) >= -1<<20
}

// fieldError is the error of a field: the one that is named first.
func fieldError(f api.Field) api.Errno {
	if len(f.Points) > 64 {
		return api.ErrMany
	}
	for _, p := range f.Points {
		if !isPoint(p) {
			return api.ErrBad
		}
	}
	for i := range f.Points {
		if i > 0 && f.Points[i-1].ID >= f.Points[i].ID {
			return api.ErrOrder
		}
	}
	return api.OK
}

func isModel(m api.Model) bool {
	return timeError(m.Now) == api.OK && fieldError(m.Field) == api.OK
}

func exact(r api.Ratio) *big.Rat {
	return big.NewRat(r.Num, r.Den)
}

// written is a fraction of math/big as one of ours.
func written(x *big.Rat) api.Ratio {
	return frac(x.Num().Int64(), x.Denom().Int64())
}

// place is where a point is at a time.
func place(p api.Point, t api.Ratio) *big.Rat {
	way := new(big.Rat).Mul(big.NewRat(p.B, 1), exact(t))
	return way.Add(way, big.NewRat(p.A, 1))
}

// isAhead reports whether p is ahead of q: by its place, then by its speed, then by its ID.
func isAhead(p, q api.Point, t api.Ratio) bool {
	return cmp.Or(place(q, t).Cmp(place(p, t)), cmp.Compare(q.B, p.B), cmp.Compare(p.ID, q.ID)) < 0
}

// leaderReply is the reply to AskLead: the one of whom no other one is ahead.
func leaderReply(m api.Model) api.Reply {
	for _, p := range m.Field.Points {
		ahead := func(q api.Point) bool { return q.ID != p.ID && isAhead(q, p, m.Now) }
		if !slices.ContainsFunc(m.Field.Points, ahead) {
			return leads(p.ID, written(place(p, m.Now)))
		}
	}
	return fails(api.ErrEmpty)
}

// apart is the distance of two points at a time: the greater one of their places less the other one.
func apart(p, q api.Point, t api.Ratio) *big.Rat {
	high, low := place(p, t), place(q, t)
	if high.Cmp(low) < 0 {
		high, low = low, high
	}
	return high.Sub(high, low)
}

// closestReply is the reply to AskClose: the first one, by their distance, then by i, and then by j, of all pairs.
func closestReply(f api.Field, t api.Ratio) api.Reply {
	type pair struct {
		d    *big.Rat
		i, j int
	}
	var list []pair
	for _, p := range f.Points {
		for _, q := range f.Points {
			if p.ID < q.ID {
				list = append(list, pair{apart(p, q, t), p.ID, q.ID})
			}
		}
	}
	if len(list) == 0 {
		return fails(api.ErrEmpty)
	}
	slices.SortFunc(list, func(x, y pair) int { return cmp.Or(x.d.Cmp(y.d), x.i-y.i, x.j-y.j) })
	return isClosest(list[0].i, list[0].j, written(list[0].d))
}

// meetings are those of a field that come between two times, in order.
func meetings(f api.Field, from, to api.Ratio) []api.Meeting {
	var list []api.Meeting
	for _, p := range f.Points {
		for _, q := range f.Points {
			if p.ID >= q.ID || p.B == q.B {
				continue
			}
			when := big.NewRat(q.A-p.A, p.B-q.B)
			if when.Cmp(exact(from)) > 0 && when.Cmp(exact(to)) <= 0 {
				list = append(list, hit(written(when), p.ID, q.ID))
			}
		}
	}
	slices.SortFunc(list, func(x, y api.Meeting) int {
		return cmp.Or(exact(x.At).Cmp(exact(y.At)), x.I-y.I, x.J-y.J)
	})
	return list
}

func has(f api.Field, id int) bool {
	return slices.ContainsFunc(f.Points, func(p api.Point) bool { return p.ID == id })
}

// sorted is a field of points in any order.
func sorted(list ...api.Point) api.Field {
	slices.SortFunc(list, func(p, q api.Point) int { return p.ID - q.ID })
	return points(list...)
}

// without is a field without the point with an ID.
func without(f api.Field, id int) api.Field {
	return points(slices.DeleteFunc(slices.Clone(f.Points), func(p api.Point) bool { return p.ID == id })...)
}

// with is a field with a point, in the place of the one with its ID, if this is there.
func with(f api.Field, p api.Point) api.Field {
	return sorted(append(without(f, p.ID).Points, p)...)
}

// unused are the parts of an ask that its kind does not use, as a list of whether each one is 0.
func unused(a api.Ask) []bool {
	noPoint, noID, noTime := a.Point == pt(0, 0, 0), a.ID == 0, a.At == frac(0, 0)
	switch a.Kind {
	case 1, 3:
		return []bool{noID, noTime}
	case 2:
		return []bool{noPoint, noTime}
	case 4:
		return []bool{noPoint, noID}
	case 5, 6:
		return []bool{noPoint, noID, noTime}
	}
	return []bool{false}
}

// askError is the error of an ask, of a valid model: the one that is named first.
func askError(m api.Model, a api.Ask) api.Errno {
	f := m.Field
	switch {
	case slices.Contains(unused(a), false):
		return api.ErrForm
	case (a.Kind == api.AskPut || a.Kind == api.AskChange) && !isPoint(a.Point):
		return api.ErrBad
	case a.Kind == api.AskPut && has(f, a.Point.ID):
		return api.ErrTwice
	case a.Kind == api.AskPut && len(f.Points) == 64:
		return api.ErrFull
	case a.Kind == api.AskTake && !has(f, a.ID), a.Kind == api.AskChange && !has(f, a.Point.ID):
		return api.ErrNone
	case a.Kind == api.AskMove && timeError(a.At) != api.OK:
		return timeError(a.At)
	case a.Kind == api.AskMove && exact(a.At).Cmp(exact(m.Now)) <= 0:
		return api.ErrPast
	}
	return api.OK
}

// after is a valid model after an ask, and the reply.
func after(m api.Model, a api.Ask) (api.Model, api.Reply) {
	if e := askError(m, a); e != api.OK {
		return m, fails(e)
	}
	switch a.Kind {
	case api.AskPut, api.AskChange:
		return at(m.Now, with(m.Field, a.Point)), api.Reply{}
	case api.AskTake:
		return at(m.Now, without(m.Field, a.ID)), api.Reply{}
	case api.AskMove:
		return at(a.At, m.Field), met(meetings(m.Field, m.Now, a.At)...)
	case api.AskLead:
		return m, leaderReply(m)
	}
	return m, closestReply(m.Field, m.Now)
}

// afterAll is a valid model after asks, and the replies.
func afterAll(m api.Model, l []api.Ask) (api.Model, []api.Reply) {
	var list []api.Reply
	for _, a := range l {
		n, r := after(m, a)
		m, list = n, append(list, r)
	}
	return m, list
}
