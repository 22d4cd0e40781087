package ktourn_test

import (
	"slices"

	"peloton/api"
	"peloton/clock"
)

// mixer makes numbers that look mixed, the same ones in each run.
type mixer uint64

func (m *mixer) below(n int) int {
	*m = *m*6364136223846793005 + 1442695040888963407
	return int((uint64(*m) ^ uint64(*m)>>29) >> 1 % uint64(n))
}

// pick is one of some numbers.
func (m *mixer) pick(list ...int) int {
	return list[m.below(len(list))]
}

// number is one from -size to size.
func (m *mixer) number(size int) int64 {
	return int64(m.below(2*size+1) - size)
}

// field is one of n points, whose places and speeds are mostly small: so many meet, also at the same time, and many have the same way.
func (m *mixer) field(n int) api.Field {
	return m.fieldWithin(n, m.pick(1, 2, 3, 6, 20, coord))
}

// fieldWithin is a field of n points, whose places and speeds are of some size.
func (m *mixer) fieldWithin(n, size int) api.Field {
	var f api.Field
	id := m.below(3)
	for range n {
		f.Points = append(f.Points, pt(id, m.number(size), m.number(size)))
		id += 1 + m.below(4)*m.below(300)
	}
	return f
}

// rendezvous is a field of n points that meet at a few times, at which many of them are at the same place.
func (m *mixer) rendezvous(n int) api.Field {
	size := m.pick(3, 6, 20)
	var f api.Field
	for i := range n {
		b := m.number(size)
		// They are at 0 at one of these times, with different speeds.
		at := int64(m.pick(1, 1, 1, 2, 5))
		f.Points = append(f.Points, pt(3*i+m.below(3), -b*at, b))
	}
	return f
}

// other is a field with the same IDs, in which about so many of ten points are others.
func (m *mixer) other(f api.Field, ofTen int) api.Field {
	f.Points = slices.Clone(f.Points)
	size := m.pick(1, 3, 20, coord)
	for i, p := range f.Points {
		if m.below(10) < ofTen {
			f.Points[i] = pt(p.ID, m.number(size), m.number(size))
		}
	}
	return f
}

// mixed are some things in mixed order.
func mixed[T any](m *mixer, list []T) []T {
	list = slices.Clone(list)
	for i := range list {
		k := m.below(i + 1)
		list[i], list[k] = list[k], list[i]
	}
	return list
}

// meetings are all times at which two points of a field meet.
func meetings(f api.Field) []api.Ratio {
	var list []api.Ratio
	for i, p := range f.Points {
		for _, q := range f.Points[:i] {
			if p.B != q.B {
				list = append(list, meeting(p, q))
			}
		}
	}
	return list
}

// time is a valid one: a meeting of a field, one close to it, a small one, or one of those at both ends.
func (m *mixer) time(f api.Field) api.Ratio {
	switch m.below(6) {
	case 0, 1, 2:
		if n := len(f.Points); n > 1 {
			p, q := f.Points[m.below(n)], f.Points[m.below(n)]
			if p.B != q.B {
				at := meeting(p, q)
				return ratio(1024*at.Num+int64(m.pick(0, 0, 0, 1, -1)), 1024*at.Den)
			}
		}
	case 3:
		return times()[m.below(len(times()))]
	}
	return ratio(m.number(20), int64(m.pick(1, 1, 2, 3)))
}

// later is a time that is not before another one, or one at which all is over.
func (m *mixer) later(f api.Field, now api.Ratio) api.Ratio {
	for range 20 {
		if to := m.time(f); compare(to, now) >= 0 {
			return to
		}
	}
	return whole(most)
}

// cert is a valid certificate about points of a field, of which there are at least two.
func (m *mixer) cert(f api.Field) api.Cert {
	i, k := m.below(len(f.Points)), m.below(len(f.Points)-1)
	if k >= i {
		k++
	}
	return over(f.Points[i].ID, f.Points[k].ID)
}

// clock is a valid one with some certificates, that has given out numbers and slots before, so that numbers are missing, and slots come in mixed order.
func (m *mixer) clock(now api.Ratio, f api.Field, list ...api.Cert) api.Clock {
	c := clockOf(now, f)
	c.Certs.Next = m.pick(0, 0, 1, m.below(9), m.below(limit/2))
	c.Agenda.Slots.Free = mixed(m, c.Agenda.Slots.Free)
	for i := range c.Agenda.Slots.Uses {
		c.Agenda.Slots.Uses[i] = m.pick(0, 0, 1, 2, m.below(9), m.below(limit-900))
	}
	var old []int
	for _, x := range list {
		if y := m.cert(f); m.below(3) == 0 && !slices.Contains(list, y) {
			if r, n, e := clock.Certify(c, y); e == api.OK {
				c, old = r, append(old, n)
			}
		}
		c = m.retire(c, &old, 2)
		r, _, e := clock.Certify(c, x)
		if e != api.OK {
			panic("a certificate that cannot be added")
		}
		c = r
	}
	return m.retire(c, &old, limit)
}

// retire retires some of the certificates with old numbers, at most so many.
func (m *mixer) retire(c api.Clock, old *[]int, most int) api.Clock {
	for range min(most, len(*old)) {
		i := m.below(len(*old))
		r, e := clock.Retire(c, (*old)[i])
		if e != api.OK {
			panic("a certificate that cannot be retired")
		}
		c, *old = r, slices.Delete(*old, i, i+1)
	}
	return c
}

// places are the IDs of n points at a number of places that they may have, the others empty: in the order of the first places, in mixed order, or all in one half.
func (m *mixer) places(ids []int) []int {
	size := m.size(len(ids))
	list := slices.Concat(ids, empties(size-len(ids)))
	switch half := size / 2; {
	case m.below(4) == 0:
		return list
	case half > 0 && len(ids) <= half && m.below(3) == 0:
		list = slices.Concat(mixed(m, list[:half]), empties(half))
		if m.below(2) == 0 {
			slices.Reverse(list)
		}
		return list
	}
	return mixed(m, list)
}

// size is a number of places for n points: mostly the least one, or the next ones.
func (m *mixer) size(n int) int {
	fit := slices.DeleteFunc(sizes(), func(size int) bool { return size < n })
	return fit[min(m.pick(0, 0, 0, 1, 1, 2, 6), len(fit)-1)]
}

// tournOf is a valid tournament of some points at a time, with any places, numbers and slots that it may have.
func (m *mixer) tournOf(now api.Ratio, f api.Field) api.KTourn {
	b := bracketOf(now, f, m.places(idsOf(f))...)
	return api.KTourn{Clock: m.clock(now, f, mixed(m, edgesOf(b))...), Bracket: b}
}

// tourn is a valid tournament of n points.
func (m *mixer) tourn(n int) api.KTourn {
	f := m.field(n)
	if m.below(3) == 0 {
		f = m.rendezvous(n)
	}
	return m.tournOf(m.time(f), f)
}

// scarce is a tournament in which numbers, or places of events, are scarce, or not.
func (m *mixer) scarce(k api.KTourn) api.KTourn {
	switch m.below(8) {
	case 0:
		return clocked(k, counted(k.Clock, m.below(20)))
	case 1:
		return clocked(k, blocked(k.Clock))
	case 2:
		for _, d := range k.Clock.Due {
			if m.below(2) == 0 {
				k = clocked(k, usedUp(k.Clock, d.Number))
			}
		}
	}
	return k
}

// times are valid ones of all sizes, up to both ends of all fractions.
func times() []api.Ratio {
	list := []api.Ratio{whole(0)}
	for _, r := range []api.Ratio{
		whole(1), frac(1, 2), whole(2), frac(7, 3), whole(6), frac(1, 1024), whole(1 << 30), frac(1<<30, 1023), frac(coord, coord-1), whole(most), frac(1, most), frac(most-1, most), frac(most, most-1),
	} {
		list = append(list, r, frac(-r.Num, r.Den))
	}
	return list
}

// fields are valid ones: without points, with both ends of all that is limited, with the same way, the same speed, and one meeting of all.
func fields() []api.Field {
	return []api.Field{
		{}, {Points: []api.Point{}}, points(pt(0, 0, 0)), points(pt(top, coord, -coord)), points(pt(3, 1, 1), pt(9, 1, 1)), moving(), level(64), crowd(64), standing(64),
		points(pt(0, coord, coord), pt(1, coord, coord), pt(2, -coord, -coord), pt(65533, coord, -coord), pt(65534, -coord, coord), pt(65535, coord, coord)),
		points(pt(3, coord, coord), pt(4, coord-1, coord), pt(5, coord, coord-1), pt(6, 1-coord, -coord), pt(7, -coord, 1-coord)),
		many(64, top-63, func(int64) (a, b int64) { return 7, -3 }),
		many(63, 11, func(i int64) (a, b int64) { return i * 5 % 9, 6 }),
	}
}

// goodTourns are valid ones, up to both ends of all that is limited.
func goodTourns() []api.KTourn {
	list := []api.KTourn{
		early(), late(), tournOf(whole(0), moving(), 5, -1, 2, 1), tournOf(whole(0), moving(), -1, -1, -1, -1, 1, 5, 2, -1), tournOf(whole(0), api.Field{}, empties(64)...), tournOf(whole(0), points(pt(3, 0, 0)), slices.Concat(empties(63), numbers(3))...),
		clocked(early(), blocked(early().Clock)), clocked(early(), usedUp(early().Clock, 1)), clocked(early(), counted(early().Clock, 0)), clocked(early(), counted(early().Clock, 1)),
	}
	for i, f := range fields() {
		at := []api.Ratio{whole(0), whole(1), whole(-most), whole(most), frac(1, 2)}[i%5]
		k, _ := made(f, at)
		list = append(list, k)
	}
	m := mixer(151)
	for _, n := range []int{0, 1, 1, 2, 2, 3, 3, 3, 4, 4, 5, 6, 7, 9, 15, 16, 31, 33, 63, 64} {
		k := m.tourn(n)
		list = append(list, k)
		if n > 2 {
			list = append(list, clocked(k, blocked(k.Clock)), clocked(k, counted(k.Clock, m.below(9))))
		}
	}
	return list
}
