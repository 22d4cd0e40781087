package clock_test

import (
	"math/big"
	"slices"

	"peloton/api"
)

// mixer makes numbers that look mixed, the same ones in each run.
type mixer uint64

func (m *mixer) below(n int) int {
	*m = *m*6364136223846793005 + 1442695040888963407
	return int((uint64(*m) ^ uint64(*m)>>29) >> 1 % uint64(n))
}

// pick is one of some numbers.
func (m *mixer) pick(list ...int) int {
	return list[m.below(len(list))]
}

// field is one of n points, whose places and speeds are mostly small: so many meet, also at the same time, and many have the same way.
func (m *mixer) field(n int) api.Field {
	var f api.Field
	size := m.pick(1, 2, 3, 6, 20, coord)
	id := m.below(3)
	for range n {
		f.Points = append(f.Points, pt(id, int64(m.below(2*size+1)-size), int64(m.below(2*size+1)-size)))
		id += 1 + m.below(4)*m.below(300)
	}
	return f
}

// point is another one with the same ID, or, now and then, with the same place or speed.
func (m *mixer) point(p api.Point) api.Point {
	size := m.pick(1, 3, 20, coord)
	q := pt(p.ID, int64(m.below(2*size+1)-size), int64(m.below(2*size+1)-size))
	switch m.below(6) {
	case 0:
		q.A = p.A
	case 1:
		q.B = p.B
	}
	return q
}

// other is a field with the same IDs, in which about so many of ten points are others.
func (m *mixer) other(f api.Field, ofTen int) api.Field {
	f.Points = slices.Clone(f.Points)
	for i, p := range f.Points {
		if m.below(10) < ofTen {
			f.Points[i] = m.point(p)
		}
	}
	return f
}

// cert is a valid certificate about points of a field, of which there are at least two.
func (m *mixer) cert(f api.Field) api.Cert {
	i, k := m.below(len(f.Points)), m.below(len(f.Points)-1)
	if k >= i {
		k++
	}
	return over(f.Points[i].ID, f.Points[k].ID)
}

// store is a valid store of at most n certificates about points of a field, with numbers that may be missing.
func (m *mixer) store(n int, f api.Field) api.Certs {
	number := m.pick(0, 0, 1, m.below(9), m.below(limit/2))
	seen := map[api.Cert]bool{}
	var s api.Certs
	for range n {
		if len(f.Points) < 2 || len(s.List) == 200 {
			break
		}
		x := m.cert(f)
		if !seen[x] {
			s.List = append(s.List, api.Held{Number: number, Cert: x})
			number += m.pick(1, 1, 1, 2, 1+m.below(40))
		}
		seen[x] = true
	}
	s.Next = m.pick(number, number, number+1, number+m.below(90), limit)
	return s
}

// meetings are all times at which two points of a field meet.
func meetings(f api.Field) []api.Ratio {
	var list []api.Ratio
	for i, p := range f.Points {
		for _, q := range f.Points[:i] {
			if p.B != q.B {
				list = append(list, meeting(p, q))
			}
		}
	}
	return list
}

// ratio is a fraction in lowest terms.
func ratio(num, den int64) api.Ratio {
	x := big.NewRat(num, den)
	return frac(x.Num().Int64(), x.Denom().Int64())
}

// time is a valid one: a meeting of a field, one close to it, a small one, or one of those at both ends.
func (m *mixer) time(f api.Field) api.Ratio {
	switch m.below(5) {
	case 0, 1:
		if n := len(f.Points); n > 1 {
			p, q := f.Points[m.below(n)], f.Points[m.below(n)]
			if p.B != q.B {
				at := meeting(p, q)
				return ratio(1024*at.Num+int64(m.pick(0, 0, 0, 1, -1)), 1024*at.Den)
			}
		}
	case 2:
		return times()[m.below(len(times()))]
	}
	return ratio(int64(m.below(41)-20), int64(m.pick(1, 1, 2, 3)))
}

// agenda is a valid one of 200 slots that has some events, with mixed slots and handles, that come from many uses, and with slots that are free in mixed order.
func (m *mixer) agenda(list []api.Event) api.Agenda {
	a := api.Agenda{Slots: api.Slots{Uses: make([]int, slots), Used: make([]bool, slots)}, Where: slices.Repeat(numbers(-1), slots)}
	order := make([]int, slots)
	for i := range order {
		k := m.below(i + 1)
		order[i], order[k] = order[k], i
		a.Slots.Uses[i] = m.pick(0, 0, 1, 2, m.below(9), m.below(limit-900))
	}
	list = slices.Clone(list)
	slices.SortFunc(list, func(x, y api.Event) int {
		if k := compare(x.At, y.At); k != 0 {
			return k
		}
		return x.Number - y.Number
	})
	for i := range list {
		slot := order[i]
		a.Slots.Uses[slot], a.Slots.Used[slot] = max(a.Slots.Uses[slot], 1), true
		list[i].Handle = api.Handle{Index: slot, Use: a.Slots.Uses[slot]}
	}
	a.Slots.Free = order[len(list):]
	a.Heap = m.heap(list)
	for i, x := range a.Heap {
		a.Where[x.Handle.Index] = i
	}
	return a
}

// heap puts events that are in order into a heap, each one into one of the places that it may have, so that heaps come up that pushing alone would not make.
func (m *mixer) heap(list []api.Event) []api.Event {
	heap := make([]api.Event, len(list))
	open := numbers(0)
	for _, x := range list {
		at := m.below(len(open))
		i := open[at]
		open = slices.Delete(open, at, at+1)
		heap[i] = x
		for _, child := range numbers(2*i+1, 2*i+2) {
			if child < len(heap) {
				open = append(open, child)
			}
		}
	}
	return heap
}

// clockOf is a valid one with some certificates, at a time.
func (m *mixer) clockOf(now api.Ratio, f api.Field, s api.Certs) api.Clock {
	return worn(of(now, f, s), m)
}

// clock is a valid one with up to n points and some certificates.
func (m *mixer) clock(n, some int) api.Clock {
	f := m.field(1 + m.below(n))
	return m.clockOf(m.time(f), f, m.store(some, f))
}

// times are valid ones of all sizes, up to both ends of all fractions.
func times() []api.Ratio {
	list := []api.Ratio{whole(0)}
	for _, r := range []api.Ratio{
		whole(1), frac(1, 2), whole(2), frac(7, 3), whole(6), frac(1, 1024), whole(1 << 30), frac(1<<30, 1023), frac(coord, coord-1), whole(most), frac(1, most), frac(most-1, most), frac(most, most-1),
	} {
		list = append(list, r, frac(-r.Num, r.Den))
	}
	return list
}

// badTimes are fractions that are not valid, each one for another reason.
func badTimes() []api.Ratio {
	return []api.Ratio{
		{}, frac(1, 0), frac(0, 2), frac(0, -1), frac(2, 2), frac(6, 4), frac(-6, 4), frac(3, -2), frac(least, 1), frac(least, 3), frac(1, least), frac(least, least), frac(most, most),
	}
}

// fields are valid ones: without points, with both ends of all that is limited, with the same way, the same speed, and one meeting of all.
func fields() []api.Field {
	return []api.Field{
		{}, {Points: []api.Point{}}, points(pt(0, 0, 0)), points(pt(top, coord, -coord)), moving(), level(64), crowd(64),
		points(pt(0, coord, coord), pt(1, coord, coord), pt(2, -coord, -coord), pt(65533, coord, -coord), pt(65534, -coord, coord), pt(65535, coord, coord)),
		points(pt(3, coord, coord), pt(4, coord-1, coord), pt(5, coord, coord-1), pt(6, 1-coord, -coord), pt(7, -coord, 1-coord)),
		many(64, top-63, func(int64) (a, b int64) { return 7, -3 }),
		many(63, 11, func(i int64) (a, b int64) { return i * 5 % 9, 6 }),
	}
}

// badPoints are points that are not valid, each one for another reason.
func badPoints() []api.Point {
	return []api.Point{
		pt(-1, 0, 0), pt(top+1, 0, 0), pt(least, 0, 0), pt(most, 0, 0), pt(4, coord+1, 0), pt(4, -coord-1, 0), pt(4, 0, coord+1), pt(4, 0, -coord-1), pt(4, most, least),
	}
}

// badFields are fields that are not valid, with the error of each one: too many points, a point that is not valid, IDs that do not increase, and several of these. Most of them have the points 1, 2 and 5.
func badFields() map[api.Errno][]api.Field {
	p := moving().Points
	list := map[api.Errno][]api.Field{
		api.ErrMany: {
			many(65, 0, func(i int64) (a, b int64) { return i, -i }), many(65, top-64, func(i int64) (a, b int64) { return i, -i }),
			{Points: make([]api.Point, 65)}, {Points: make([]api.Point, 5000)}, {Points: slices.Repeat(badPoints(), 9)}, {Points: slices.Concat(p, many(62, 6, func(i int64) (a, b int64) { return i, 0 }).Points)},
		},
		api.ErrBad:   {points(pt(5, 0, 0), pt(5, 0, 0), pt(-1, 0, 0)), {Points: slices.Repeat(badPoints(), 4)}},
		api.ErrOrder: {points(p[0], p[1], p[1], p[2]), points(p[1], p[0], p[2]), points(p[0], p[2], p[1]), points(p[0], p[1], p[2], p[0]), points(pt(1, 0, 0), pt(1, 0, 1)), {Points: make([]api.Point, 64)}},
	}
	for _, q := range badPoints() {
		list[api.ErrBad] = append(list[api.ErrBad], points(q), points(q, p[0], p[1], p[2]), points(p[0], p[1], q, p[2]), points(p[0], p[1], p[2], q))
	}
	return list
}

// goodClocks are valid ones, up to both ends of all that is limited.
func goodClocks() []api.Clock {
	list := []api.Clock{
		example(), gapped(), bare(whole(0), api.Field{}), bare(frac(-1, most), points()), blocked(example()), blocked(gapped()), blocked(bare(whole(1), moving())),
		of(whole(2), moving(), example().Certs), of(whole(6), moving(), example().Certs), of(whole(most), moving(), example().Certs), of(whole(-most), moving(), example().Certs),
		of(whole(0), level(64), pairs(200)), of(whole(1), level(64), pairs(200)), of(whole(0), level(64), turned(pairs(200))), of(whole(1), level(64), turned(pairs(200))),
		of(whole(0), crowd(64), pairs(200)), of(whole(9), crowd(64), pairs(200)), of(whole(0), crowd(64), pairs(199)), of(whole(9), crowd(64), turned(pairs(199))), of(whole(most), crowd(64), turned(pairs(200))),
		of(whole(1), moving(), certs(limit, held(limit-1, 2, 1))), of(whole(1), moving(), certs(limit)), of(whole(1), moving(), certs(limit-1, held(0, 2, 5), held(limit-2, 2, 1))),
		of(whole(most-1), points(pt(0, coord, -coord), pt(top, -coord, coord)), certs(2, held(0, 0, top), held(1, top, 0))), of(frac(-most, most-1), points(pt(0, coord, -coord), pt(top, -coord, coord)), certs(2, held(0, 0, top), held(1, top, 0))),
	}
	for _, f := range fields() {
		list = append(list, bare(whole(1), f))
	}
	m := mixer(9)
	for _, n := range []int{0, 1, 1, 2, 2, 3, 3, 4, 5, 6, 9, 15, 40, 200, 230} {
		for range 3 {
			c := m.clock(2+min(n, 62), n)
			list = append(list, c)
			if len(c.Agenda.Heap) < 200 {
				list = append(list, blocked(c))
			}
		}
	}
	return list
}
