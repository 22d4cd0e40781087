package bracket_test

import (
	"math/big"
	"slices"

	"peloton/api"
)

// mixer makes numbers that look mixed, the same ones in each run.
type mixer uint64

func (m *mixer) below(n int) int {
	*m = *m*6364136223846793005 + 1442695040888963407
	return int((uint64(*m) ^ uint64(*m)>>29) >> 1 % uint64(n))
}

// pick is one of some numbers.
func (m *mixer) pick(list ...int) int {
	return list[m.below(len(list))]
}

// field is one of n points, whose places and speeds are mostly small: so many meet, also at the same time, and many have the same way.
func (m *mixer) field(n int) api.Field {
	var f api.Field
	size := m.pick(1, 2, 3, 6, 20, coord)
	id := m.below(3)
	for range n {
		f.Points = append(f.Points, pt(id, int64(m.below(2*size+1)-size), int64(m.below(2*size+1)-size)))
		id += 1 + m.below(4)*m.below(300)
	}
	return f
}

// meeting is when two points with different speeds are at the same place.
func meeting(p, q api.Point) api.Ratio {
	return ratio(q.A-p.A, p.B-q.B)
}

// ratio is a fraction in lowest terms.
func ratio(num, den int64) api.Ratio {
	x := big.NewRat(num, den)
	return frac(x.Num().Int64(), x.Denom().Int64())
}

// time is a valid one: a meeting of a field, one close to it, a small one, or one of those at both ends.
func (m *mixer) time(f api.Field) api.Ratio {
	switch m.below(5) {
	case 0, 1:
		if n := len(f.Points); n > 1 {
			p, q := f.Points[m.below(n)], f.Points[m.below(n)]
			if p.B != q.B {
				at := meeting(p, q)
				return ratio(1024*at.Num+int64(m.pick(0, 0, 0, 1, -1)), 1024*at.Den)
			}
		}
	case 2:
		return times()[m.below(len(times()))]
	}
	return ratio(int64(m.below(41)-20), int64(m.pick(1, 1, 2, 3)))
}

// places are n places with IDs of a field in mixed order, of which about so many of ten are empty.
func (m *mixer) places(f api.Field, n, ofTen int) []int {
	list := m.mixed(idsOf(f))
	var places []int
	for range n {
		if len(list) == 0 || m.below(10) < ofTen {
			places = append(places, -1)
		} else {
			places, list = append(places, list[0]), list[1:]
		}
	}
	return places
}

// mixed are the same numbers in another order.
func (m *mixer) mixed(list []int) []int {
	list = slices.Clone(list)
	for i := range list {
		k := m.below(i + 1)
		list[i], list[k] = list[k], list[i]
	}
	return list
}

// bracket is a valid one with some places, whose winners are those of either child, as it comes.
func (m *mixer) bracket(places []int) api.Bracket {
	b := of(slices.Clone(places), make([]int, len(places)-1)...)
	for i := len(b.Wins) - 1; i >= 0; i-- {
		x, y := below(b, i)
		b.Wins[i] = m.pick(x, y)
		if b.Wins[i] == -1 {
			b.Wins[i] = max(x, y)
		}
	}
	return b
}

func idsOf(f api.Field) []int {
	var list []int
	for _, p := range f.Points {
		list = append(list, p.ID)
	}
	return list
}

// stage is a valid bracket, a field that has all its IDs, and a time, at which it is right or not.
type stage struct {
	b  api.Bracket
	f  api.Field
	at api.Ratio
}

// stage is one with up to n places: one half of them are right.
func (m *mixer) stage(n int) stage {
	f := m.field(m.below(min(n, 60) + 4))
	at := m.time(f)
	places := m.places(f, 1+m.below(n), m.pick(0, 0, 2, 5, 9))
	if m.below(2) == 0 {
		return stage{rightOne(f, at, places), f, at}
	}
	return stage{m.bracket(places), f, at}
}

// times are valid ones of all sizes, up to both ends of all fractions.
func times() []api.Ratio {
	list := []api.Ratio{whole(0)}
	for _, r := range []api.Ratio{
		whole(1), frac(1, 2), whole(2), frac(7, 3), whole(6), frac(1, 1024), whole(1 << 30), frac(1<<30, 1023), frac(coord, coord-1), whole(most), frac(1, most), frac(most-1, most), frac(most, most-1),
	} {
		list = append(list, r, frac(-r.Num, r.Den))
	}
	return list
}

// badTimes are fractions that are not valid, each one for another reason.
func badTimes() []api.Ratio {
	return []api.Ratio{
		{}, frac(1, 0), frac(0, 2), frac(0, -1), frac(2, 2), frac(6, 4), frac(-6, 4), frac(3, -2), frac(least, 1), frac(least, 3), frac(1, least), frac(least, least), frac(most, most),
	}
}

// ends are points with both ends of all that is limited.
func ends() api.Field {
	return points(pt(0, coord, coord), pt(1, coord, coord), pt(2, -coord, -coord), pt(65533, coord, -coord), pt(65534, -coord, coord), pt(65535, coord, coord))
}

// together are n points that are at the same place at all times.
func together(n, first int) api.Field {
	return many(n, first, func(int64) (a, b int64) { return 7, -3 })
}

// fields are valid ones: without points, with both ends of all that is limited, with the same way, the same speed, and one meeting of all.
func fields() []api.Field {
	return []api.Field{
		{}, {Points: []api.Point{}}, points(pt(0, 0, 0)), points(pt(top, coord, -coord)), moving(), level(64), crowd(64), standing(64), ends(), together(64, top-63),
		points(pt(3, coord, coord), pt(4, coord-1, coord), pt(5, coord, coord-1), pt(6, 1-coord, -coord), pt(7, -coord, 1-coord)),
		many(63, 11, func(i int64) (a, b int64) { return i * 5 % 9, 6 }),
	}
}

// badPoints are points that are not valid, each one for another reason.
func badPoints() []api.Point {
	return []api.Point{
		pt(-1, 0, 0), pt(top+1, 0, 0), pt(least, 0, 0), pt(most, 0, 0), pt(4, coord+1, 0), pt(4, -coord-1, 0), pt(4, 0, coord+1), pt(4, 0, -coord-1), pt(4, most, least),
	}
}

// badFields are fields that are not valid, with the error of each one: too many points, a point that is not valid, IDs that do not increase, and several of these. Most of them have the points 1, 2 and 5.
func badFields() map[api.Errno][]api.Field {
	p := moving().Points
	list := map[api.Errno][]api.Field{
		api.ErrMany: {
			many(65, 0, func(i int64) (a, b int64) { return i, -i }), many(65, top-64, func(i int64) (a, b int64) { return i, -i }),
			{Points: make([]api.Point, 65)}, {Points: make([]api.Point, 5000)}, {Points: slices.Repeat(badPoints(), 9)}, {Points: slices.Concat(p, many(62, 6, func(i int64) (a, b int64) { return i, 0 }).Points)},
		},
		api.ErrBad:   {points(pt(5, 0, 0), pt(5, 0, 0), pt(-1, 0, 0)), {Points: slices.Repeat(badPoints(), 4)}},
		api.ErrOrder: {points(p[0], p[1], p[1], p[2]), points(p[1], p[0], p[2]), points(p[0], p[2], p[1]), points(p[0], p[1], p[2], p[0]), points(pt(1, 0, 0), pt(1, 0, 1)), {Points: make([]api.Point, 64)}},
	}
	for _, q := range badPoints() {
		list[api.ErrBad] = append(list[api.ErrBad], points(q), points(q, p[0], p[1], p[2]), points(p[0], p[1], q, p[2]), points(p[0], p[1], p[2], q))
	}
	return list
}

// allBadFields are the same ones, in the same order in each run.
func allBadFields() []api.Field {
	list := badFields()
	return slices.Concat(list[api.ErrMany], list[api.ErrBad], list[api.ErrOrder])
}

// goodStages have valid brackets, up to both ends of all that is limited.
func goodStages() []stage {
	one, six := whole(1), whole(6)
	list := []stage{
		{example(), moving(), whole(0)}, {example(), moving(), one}, {example(), moving(), whole(2)}, {example(), moving(), whole(-1)}, {of(ids(1, 2, -1, 5), 5, 1, 5), moving(), six},
		{of(ids(-1)), api.Field{}, one}, {of(ids(-1)), moving(), one}, {of(ids(2)), moving(), one}, {of(ids(top)), ends(), one}, {of(ids(0)), ends(), one}, {of(ids(-1), []int{}...), points(), one},
		{of(ids(-1, -1), -1), api.Field{}, one}, {of(ids(1, -1), 1), moving(), one}, {of(ids(-1, 5), 5), moving(), one}, {of(ids(5, 1), 5), moving(), six}, {of(ids(0, top), 0), ends(), one}, {of(ids(0, top), top), ends(), one},
		{of(ids(1, 2, 5), 1, 2), moving(), one}, {of(ids(1, 2, 5), 5, 5), moving(), one}, {of(ids(-1, 2, -1), 2, 2), moving(), one}, {of(ids(-1, -1, -1), -1, -1), moving(), one},
		{of(empties(64), empties(63)...), api.Field{}, one}, {of(empties(63), empties(62)...), moving(), one},
	}
	m := mixer(10)
	for _, f := range fields() {
		for _, n := range []int{1, len(f.Points), 64} {
			if n > 0 {
				places := m.places(f, n, 1)
				list = append(list, stage{rightOne(f, one, places), f, one}, stage{m.bracket(places), f, one}, stage{rightOne(f, whole(-3), places), f, whole(most)})
			}
		}
	}
	for _, n := range []int{1, 2, 2, 3, 3, 4, 4, 5, 6, 7, 8, 9, 16, 17, 31, 33, 64, 64, 64} {
		for range 4 {
			list = append(list, m.stage(n))
		}
	}
	return list
}
