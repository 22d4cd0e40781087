package cartes_test

import (
	"math/big"
	"slices"

	"peloton/api"
)

// mixer makes numbers that look mixed, the same ones in each run.
type mixer uint64

func (m *mixer) below(n int) int {
	*m = *m*6364136223846793005 + 1442695040888963407
	return int((uint64(*m) ^ uint64(*m)>>29) >> 1 % uint64(n))
}

// pick is one of some numbers.
func (m *mixer) pick(list ...int) int {
	return list[m.below(len(list))]
}

// field is one of n points, whose places and speeds are mostly small: so many meet, also at the same time, and many have the same way.
func (m *mixer) field(n int) api.Field {
	var f api.Field
	size := m.pick(1, 2, 3, 6, 20, coord)
	id := m.below(3)
	for range n {
		f.Points = append(f.Points, pt(id, int64(m.below(2*size+1)-size), int64(m.below(2*size+1)-size)))
		id += 1 + m.below(4)*m.below(300)
	}
	return f
}

// meeting is when two points with different speeds are at the same place.
func meeting(p, q api.Point) api.Ratio {
	return lowest(q.A-p.A, p.B-q.B)
}

// lowest is a fraction in lowest terms.
func lowest(num, den int64) api.Ratio {
	x := big.NewRat(num, den)
	return frac(x.Num().Int64(), x.Denom().Int64())
}

// time is a valid one: a meeting of a field, one close to it, a small one, or one of those at both ends.
func (m *mixer) time(f api.Field) api.Ratio {
	switch m.below(5) {
	case 0, 1:
		if n := len(f.Points); n > 1 {
			p, q := f.Points[m.below(n)], f.Points[m.below(n)]
			if p.B != q.B {
				at := meeting(p, q)
				return lowest(1024*at.Num+int64(m.pick(0, 0, 0, 1, -1)), 1024*at.Den)
			}
		}
	case 2:
		return times()[m.below(len(times()))]
	}
	return lowest(int64(m.below(41)-20), int64(m.pick(1, 1, 2, 3)))
}

// mixed are the same numbers in another order.
func (m *mixer) mixed(list []int) []int {
	list = slices.Clone(list)
	for i := range list {
		k := m.below(i + 1)
		list[i], list[k] = list[k], list[i]
	}
	return list
}

// tree is a valid one that is in order, with some IDs that increase, any of which may be the root.
func (m *mixer) tree(list []int) api.Tree {
	return m.twig(list).tree()
}

func (m *mixer) twig(list []int) *twig {
	if len(list) == 0 {
		return nil
	}
	i := m.below(len(list))
	return &twig{list[i], m.twig(list[:i]), m.twig(list[i+1:])}
}

// scattered is the same tree, whose nodes stand in a mixed order in Nodes.
func (m *mixer) scattered(x api.Tree) api.Tree {
	return placed(x, m.mixed(upTo(len(x.Nodes))))
}

// some are about so many of ten of some numbers.
func (m *mixer) some(list []int, ofTen int) []int {
	return slices.DeleteFunc(slices.Clone(list), func(int) bool { return m.below(10) >= ofTen })
}

// stage is what is asked of trees: two of them, a field, a time and an ID.
type stage struct {
	x, y api.Tree
	f    api.Field
	at   api.Ratio
	id   int
}

// stage is one with a field of n points, trees of its points or of most of them, mostly one on the left of the other one, and an ID that they have, or not.
func (m *mixer) stage(n int) stage {
	f := m.field(n)
	s := stage{f: f, at: m.time(f)}
	all := idsOf(f)
	cut := m.below(n + 1)
	low, high := m.some(all[:cut], m.pick(10, 10, 9, 5)), m.some(all[cut:], m.pick(10, 10, 9, 5))
	switch m.below(8) {
	case 0:
		low = all
	case 1:
		high = all
	}
	s.x, s.y = m.treeFor(s, low), m.treeFor(s, high)
	s.id = m.pick(append(all, -1, 0, 3, top, most, least)...) + m.pick(0, 0, 1, -1)
	return s
}

// treeFor is a valid tree with some IDs: that of these points, or one of any shape, mostly in order.
func (m *mixer) treeFor(s stage, list []int) api.Tree {
	x := m.tree(list)
	if m.below(2) == 0 {
		x = grown(only(s.f, list...).Points, s.at).tree()
	}
	if m.below(6) == 0 {
		x = m.scattered(x)
	}
	return x
}

// times are valid ones of all sizes, up to both ends of all fractions.
func times() []api.Ratio {
	list := []api.Ratio{whole(0)}
	for _, r := range []api.Ratio{
		whole(1), frac(1, 2), whole(2), frac(7, 3), whole(6), frac(1, 1024), whole(1 << 30), frac(1<<30, 1023), frac(coord, coord-1), whole(most), frac(1, most), frac(most-1, most), frac(most, most-1),
	} {
		list = append(list, r, frac(-r.Num, r.Den))
	}
	return list
}

// badTimes are fractions that are not valid, each one for another reason.
func badTimes() []api.Ratio {
	return []api.Ratio{
		{}, frac(1, 0), frac(0, 2), frac(0, -1), frac(2, 2), frac(6, 4), frac(-6, 4), frac(3, -2), frac(least, 1), frac(least, 3), frac(1, least), frac(least, least), frac(most, most),
	}
}

// ends are points with both ends of all that is limited.
func ends() api.Field {
	return points(pt(0, coord, coord), pt(1, coord, coord), pt(2, -coord, -coord), pt(65533, coord, -coord), pt(65534, -coord, coord), pt(65535, coord, coord))
}

// fields are valid ones: without points, with both ends of all that is limited, with the same way, the same speed, and one meeting of all.
func fields() []api.Field {
	return []api.Field{
		{}, {Points: []api.Point{}}, points(pt(0, 0, 0)), points(pt(top, coord, -coord)), moving(), level(64), crowd(64), standing(64), ends(), together(64, top-63),
		points(pt(3, coord, coord), pt(4, coord-1, coord), pt(5, coord, coord-1), pt(6, 1-coord, -coord), pt(7, -coord, 1-coord)),
		many(63, 11, func(i int64) (a, b int64) { return i * 5 % 9, 6 }),
	}
}

// badPoints are points that are not valid, each one for another reason.
func badPoints() []api.Point {
	return []api.Point{
		pt(-1, 0, 0), pt(top+1, 0, 0), pt(least, 0, 0), pt(most, 0, 0), pt(4, coord+1, 0), pt(4, -coord-1, 0), pt(4, 0, coord+1), pt(4, 0, -coord-1), pt(4, most, least),
	}
}

// badFields are fields that are not valid, with the error of each one: too many points, a point that is not valid, IDs that do not increase, and several of these. Most of them have the points 1, 2 and 5.
func badFields() map[api.Errno][]api.Field {
	p := moving().Points
	list := map[api.Errno][]api.Field{
		api.ErrMany: {
			many(65, 0, func(i int64) (a, b int64) { return i, -i }), many(65, top-64, func(i int64) (a, b int64) { return i, -i }),
			{Points: make([]api.Point, 65)}, {Points: make([]api.Point, 5000)}, {Points: slices.Repeat(badPoints(), 9)}, {Points: slices.Concat(p, many(62, 6, func(i int64) (a, b int64) { return i, 0 }).Points)},
		},
		api.ErrBad:   {points(pt(5, 0, 0), pt(5, 0, 0), pt(-1, 0, 0)), {Points: slices.Repeat(badPoints(), 4)}},
		api.ErrOrder: {points(p[0], p[1], p[1], p[2]), points(p[1], p[0], p[2]), points(p[0], p[2], p[1]), points(p[0], p[1], p[2], p[0]), points(pt(1, 0, 0), pt(1, 0, 1)), {Points: make([]api.Point, 64)}},
	}
	for _, q := range badPoints() {
		list[api.ErrBad] = append(list[api.ErrBad], points(q), points(q, p[0], p[1], p[2]), points(p[0], p[1], q, p[2]), points(p[0], p[1], p[2], q))
	}
	return list
}

// allBadFields are the same ones, in the same order in each run.
func allBadFields() []api.Field {
	list := badFields()
	return slices.Concat(list[api.ErrMany], list[api.ErrBad], list[api.ErrOrder])
}

// goodTrees are valid ones, up to both ends of all that is limited: without nodes, of one node, lines, and others, in order or not.
func goodTrees() []api.Tree {
	list := []api.Tree{
		bare(), of(-1, []api.Node{}...), of(0, leaf(0)), of(0, leaf(top)), of(0, leaf(7)), early(), late(), last(), mirror(early()), mirror(late()), of(2, nd(5, -1, -1), leaf(1), nd(2, 1, 0)),
		of(0, nd(0, -1, 1), leaf(top)), of(1, leaf(0), nd(top, 0, -1)), of(1, leaf(top), nd(0, -1, 0)), of(0, nd(top, 1, -1), leaf(0)),
	}
	m := mixer(11)
	for _, n := range []int{2, 3, 4, 7, 63, 64} {
		list = append(list, falling(n, 0), rising(n, 5), zigzag(n, top-n+1), mirror(falling(n, 1)), mirror(zigzag(n, 0)), m.tree(upTo(n)), m.scattered(m.tree(upTo(n))), m.scattered(rising(n, top-n+1)))
	}
	for range 20 {
		x := m.tree(idsOf(m.field(1 + m.below(64))))
		list = append(list, x, m.scattered(x))
	}
	return list
}

// goodStages have valid trees, fields and times, up to both ends of all that is limited; some have trees that are not in order, or that cannot be merged.
func goodStages() []stage {
	one := whole(1)
	list := []stage{
		{early(), bare(), moving(), whole(0), 2}, {late(), bare(), moving(), whole(2), 2}, {bare(), last(), moving(), whole(6), 6}, {of(0, leaf(1)), of(0, nd(2, -1, 1), leaf(5)), moving(), whole(2), 1},
		{bare(), bare(), api.Field{}, one, 0}, {of(0, leaf(0)), of(0, leaf(top)), ends(), one, 0}, {of(0, leaf(1)), of(0, leaf(1)), moving(), one, 1}, {of(0, leaf(2)), of(0, leaf(1)), moving(), one, 2},
		{falling(32, 0), rising(32, 32), level(64), whole(0), 31}, {falling(32, 0), rising(32, 32), level(64), one, 32}, {falling(64, 0), bare(), level(64), one, 64}, {rising(64, 0), of(0, leaf(64)), level(64), one, 63},
		{zigzag(40, 0), zigzag(24, 40), crowd(64), whole(50), 20}, {falling(64, 0), falling(64, 0), level(64), one, 0}, {mirror(early()), early(), moving(), whole(0), 3}, {early(), mirror(early()), moving(), whole(0), 3},
	}
	trees := goodTrees()
	for i, x := range trees {
		list = append(list, stage{x, trees[i*7%len(trees)], fields()[i%12], times()[i%27], i % 70})
	}
	m := mixer(10)
	for _, n := range []int{0, 1, 2, 3, 4, 5, 6, 7, 8, 9, 16, 17, 31, 33, 64, 64, 64} {
		for range 6 {
			list = append(list, m.stage(n))
		}
	}
	return list
}
