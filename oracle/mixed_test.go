package oracle_test

import (
	"math/big"
	"slices"
	"testing"

	"peloton/api"
)

// mixer makes numbers that look mixed, the same ones in each run.
type mixer uint64

func (m *mixer) below(n int) int {
	*m = *m*6364136223846793005 + 1442695040888963407
	return int((uint64(*m) ^ uint64(*m)>>29) >> 1 % uint64(n))
}

// pick is one of some numbers.
func (m *mixer) pick(list ...int) int {
	return list[m.below(len(list))]
}

// number is one from -size to size.
func (m *mixer) number(size int) int64 {
	return int64(m.below(2*size+1) - size)
}

// point is one with an ID, whose place and speed are mostly small: so many meet, also at one time, and many have the same way.
func (m *mixer) point(id int) api.Point {
	size := m.pick(1, 2, 2, 3, 6, 20, coord)
	return pt(id, m.number(size), m.number(size))
}

// field is one of n points.
func (m *mixer) field(n int) api.Field {
	var f api.Field
	id := m.below(3)
	for range n {
		f.Points = append(f.Points, m.point(id))
		id += 1 + m.below(4)*m.below(300)
	}
	return f
}

// time is one that is asked for: mostly a small one, or one at which two points of a field meet, if this is asked for.
func (m *mixer) time(f api.Field) api.Ratio {
	if n := len(f.Points); n > 1 && m.below(3) == 0 {
		p, q := f.Points[m.below(n)], f.Points[m.below(n)]
		if p.B != q.B {
			if t := written(big.NewRat(q.A-p.A, p.B-q.B)); timeError(t) == api.OK {
				return t
			}
		}
	}
	if m.below(9) == 0 {
		return asked()[m.below(len(asked()))]
	}
	return written(big.NewRat(m.number(30), int64(m.pick(1, 1, 2, 3, 1000))))
}

// model is a valid one of n points.
func (m *mixer) model(n int) api.Model {
	f := m.field(n)
	return at(m.time(f), f)
}

// id is one of a field, or now and then another one.
func (m *mixer) id(f api.Field) int {
	if n := len(f.Points); n > 0 && m.below(4) > 0 {
		return f.Points[m.below(n)].ID
	}
	return m.pick(0, 1, 2, 3, 5, 9, 700, top, m.below(top))
}

// ask is one of a model: mostly one without an error.
func (m *mixer) ask(x api.Model) api.Ask {
	id := m.id(x.Field)
	switch m.below(14) {
	case 0, 1, 2:
		return put(m.point(m.pick(id, m.below(40), m.below(top))))
	case 3:
		return take(id)
	case 4, 5:
		return change(m.point(id))
	case 6:
		return move(m.time(x.Field))
	case 7, 8:
		later := new(big.Rat).Add(exact(x.Now), big.NewRat(int64(1+m.below(3)), int64(m.pick(1, 2, 3))))
		return move(written(later))
	case 9, 10:
		return askLead()
	case 11, 12:
		return askClose()
	}
	return m.odd(x)
}

// odd is an ask that is mostly not right.
func (m *mixer) odd(x api.Model) api.Ask {
	switch m.below(3) {
	case 0:
		list := malformed(at(x.Now, moving()))
		return list[m.below(len(list))]
	case 1:
		list := formed(at(x.Now, moving()))
		return list[m.below(len(list))]
	}
	a := m.ask(x)
	a.Kind = uint8(m.below(8))
	return a
}

// asks are n of a model, each one of what the ones before it leave.
func (m *mixer) asks(x api.Model, n int) []api.Ask {
	var list []api.Ask
	for range n {
		a := m.ask(x)
		x, _ = after(x, a)
		list = append(list, a)
	}
	return list
}

// P12.2: asks by chance, of models by chance.
func TestDoByChance(t *testing.T) {
	m := mixer(12)
	seen := map[api.Errno]int{}
	for i := range 6000 {
		x := m.model(i % 9)
		a := m.ask(x)
		next, r := after(x, a)
		wantDo(t, x, a, next, r)
		seen[r.Err]++
	}
	for _, e := range []api.Errno{api.OK, api.ErrNone, api.ErrBad, api.ErrForm, api.ErrTwice, api.ErrEmpty, api.ErrPast} {
		if seen[e] < 30 {
			t.Error(e, "seen only", seen[e])
		}
	}
}

// P12.2: runs by chance.
func TestRunByChance(t *testing.T) {
	m := mixer(13)
	meetings := 0
	for i := range 300 {
		x := m.model(m.pick(0, 1, 2, 5, 9, 20))
		if i%50 == 0 {
			x = m.model(63)
		}
		l := m.asks(x, m.below(121))
		next, replies := afterAll(x, l)
		wantRun(t, x, l, next, replies)
		for _, r := range replies {
			meetings += len(r.Meetings)
		}
	}
	enough(t, meetings)
}

// P12.3: the closest pairs of fields by chance.
func TestClosestByChance(t *testing.T) {
	m := mixer(14)
	for i := range 3000 {
		f := m.field(2 + i%8)
		if i%300 == 0 {
			f = m.field(64)
		}
		now := m.time(f)
		r := closestReply(f, now)
		wantClosest(t, f, now, r.ID, r.Other, r.Value, api.OK)
	}
}

// smallFields are all fields of up to three points, with IDs and numbers that are small.
func smallFields() []api.Field {
	list := []api.Field{{}}
	for i := range 3 {
		for _, f := range slices.Clone(list) {
			for a := int64(-1); a <= 1; a++ {
				for b := int64(0); b <= 1; b++ {
					list = append(list, points(append(slices.Clone(f.Points), pt(i, a, b))...))
				}
			}
		}
	}
	return list
}

// P12.2: all small fields at a few times, and all small asks.
func TestAllSmall(t *testing.T) {
	list := []api.Ask{askLead(), askClose(), {}, {Kind: 7}, move(frac(0, 1)), move(frac(1, 2)), move(whole(1)), move(whole(2)), move(whole(-1))}
	for id := -1; id <= 3; id++ {
		list = append(list, take(id), put(pt(id, 0, 1)), change(pt(id, 1, 0)))
	}
	seen := 0
	for _, f := range smallFields() {
		for _, now := range []api.Ratio{whole(-1), whole(0), whole(1)} {
			for _, a := range list {
				next, r := after(at(now, f), a)
				wantDo(t, at(now, f), a, next, r)
				seen++
			}
		}
	}
	enough(t, seen)
}
