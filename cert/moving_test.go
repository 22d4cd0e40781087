package cert_test

import (
	"math/big"
	"slices"

	"peloton/api"
	"peloton/ratio"
)

// frac is a fraction as it is written, valid or not.
func frac(num, den int64) api.Ratio {
	return api.Ratio{Num: num, Den: den}
}

// whole is the fraction of a whole number.
func whole(n int64) api.Ratio {
	return frac(n, 1)
}

// pt is a point as it is written, valid or not.
func pt(id int, a, b int64) api.Point {
	return api.Point{ID: id, A: a, B: b}
}

// points is a field of points as they are written, valid or not.
func points(list ...api.Point) api.Field {
	return api.Field{Points: list}
}

// many is a field of n points whose IDs start with the given one, where the point i has the way of i.
func many(n, first int, way func(i int64) (a, b int64)) api.Field {
	var f api.Field
	for i := range n {
		a, b := way(int64(i))
		f.Points = append(f.Points, pt(first+i, a, b))
	}
	return f
}

// standing are the points of the chapter's examples.
func standing() api.Field {
	return points(pt(1, 5, 0), pt(2, 6, 0), pt(3, 7, 0))
}

// moving are points of which 1 and 5 meet at 0, 1 and 2 at 2, and 2 and 5 at 6.
func moving() api.Field {
	return points(pt(1, 0, 2), pt(2, 6, -1), pt(5, 0, 0))
}

// anyField is a field of n points, whose places and speeds are mostly small: so many meet, and many have the same way.
func anyField(m *mixer, n int) api.Field {
	var f api.Field
	size := m.pick(1, 3, 20, coord)
	id := m.below(3)
	for range n {
		f.Points = append(f.Points, pt(id, int64(m.below(2*size+1)-size), int64(m.below(2*size+1)-size)))
		id += 1 + m.below(4)*m.below(300)
	}
	return f
}

// fields are valid ones: without points, with both ends of all that is limited, with the same way, the same speed, and one meeting of all.
func fields() []api.Field {
	list := []api.Field{
		{}, {Points: []api.Point{}}, points(pt(0, 0, 0)), points(pt(top, coord, -coord)), standing(), moving(),
		points(pt(0, coord, coord), pt(1, coord, coord), pt(2, -coord, -coord), pt(65533, coord, -coord), pt(65534, -coord, coord), pt(65535, coord, coord)),
		points(pt(3, coord, coord), pt(4, coord-1, coord), pt(5, coord, coord-1), pt(6, 1-coord, -coord), pt(7, -coord, 1-coord)),
		many(64, 0, func(i int64) (a, b int64) { return 4 - 2*(i*29%64), i * 29 % 64 }),
		many(64, top-63, func(int64) (a, b int64) { return 7, -3 }),
		many(63, 11, func(i int64) (a, b int64) { return i * 5 % 9, 6 }),
	}
	m := mixer(3)
	for _, n := range []int{1, 2, 2, 3, 3, 4, 5, 8, 20, 63, 64} {
		list = append(list, anyField(&m, n), anyField(&m, n))
	}
	return list
}

// badFields are fields that are not valid, with the error of each one: too many points, a point that is not valid, IDs that do not increase, and several of these.
func badFields() map[api.Errno][]api.Field {
	bad := []api.Point{
		pt(-1, 0, 0), pt(top+1, 0, 0), pt(least, 0, 0), pt(most, 0, 0), pt(4, coord+1, 0), pt(4, -coord-1, 0), pt(4, 0, coord+1), pt(4, 0, -coord-1), pt(4, most, least),
	}
	list := map[api.Errno][]api.Field{
		api.ErrMany: {
			many(65, 0, func(i int64) (a, b int64) { return i, -i }), many(65, top-10, func(i int64) (a, b int64) { return i, -i }),
			{Points: make([]api.Point, 65)}, {Points: make([]api.Point, 5000)}, {Points: slices.Repeat(bad, 9)},
		},
		api.ErrBad:   {points(pt(5, 0, 0), pt(5, 0, 0), pt(-1, 0, 0)), {Points: slices.Repeat(bad, 4)}},
		api.ErrOrder: {points(pt(1, 0, 0), pt(1, 0, 1)), points(pt(2, 0, 0), pt(1, 0, 1)), points(pt(1, 0, 2), pt(2, 6, -1), pt(1, 3, 3)), {Points: make([]api.Point, 64)}},
	}
	for _, p := range bad {
		list[api.ErrBad] = append(list[api.ErrBad], points(p), points(pt(1, 0, 2), p), points(p, pt(5, 0, 0)), points(pt(1, 5, 0), pt(2, 6, 0), pt(3, 7, 0), p))
	}
	return list
}

// fieldError is the error of a field, by the definition: the one that is named first.
func fieldError(f api.Field) api.Errno {
	if len(f.Points) > 64 {
		return api.ErrMany
	}
	for _, p := range f.Points {
		if p.ID < 0 || p.ID > 65535 || max(p.A, p.B) > 1<<20 || min(p.A, p.B) < -1<<20 {
			return api.ErrBad
		}
	}
	for i, p := range f.Points {
		if i > 0 && f.Points[i-1].ID >= p.ID {
			return api.ErrOrder
		}
	}
	return api.OK
}

// times are valid ones of all sizes, up to both ends of all fractions.
func times() []api.Ratio {
	list := []api.Ratio{whole(0)}
	for _, r := range []api.Ratio{
		whole(1), frac(1, 2), whole(2), frac(7, 3), whole(6), frac(1, 1024), whole(1 << 30), frac(1<<30, 1023), frac(coord, coord-1), whole(most), frac(1, most), frac(most-1, most), frac(most, most-1),
	} {
		list = append(list, r, frac(-r.Num, r.Den))
	}
	return list
}

// badTimes are fractions that are not valid, each one for another reason.
func badTimes() []api.Ratio {
	return []api.Ratio{
		{}, frac(1, 0), frac(0, 2), frac(0, -1), frac(2, 2), frac(6, 4), frac(-6, 4), frac(3, -2), frac(least, 1), frac(least, 3), frac(1, least), frac(least, least), frac(most, most),
	}
}

// isTime follows the definition of a valid fraction.
func isTime(r api.Ratio) bool {
	if r.Den < 1 || r.Num == least {
		return false
	}
	return big.NewRat(r.Num, r.Den).Denom().Cmp(big.NewInt(r.Den)) == 0
}

// meetings are the times at which points meet that a store names, and times just before and after them.
func meetings(c api.Certs, f api.Field) []api.Ratio {
	var list []api.Ratio
	for _, h := range c.List {
		p, q := f.Points[indexOf(f, h.Cert.Low)], f.Points[indexOf(f, h.Cert.High)]
		at, e := ratio.Make(q.A-p.A, p.B-q.B)
		if e != api.OK {
			continue
		}
		for _, tiny := range []api.Ratio{frac(-1, 1<<32), whole(0), frac(1, 1<<32)} {
			if r, e := ratio.Add(at, tiny); e == api.OK {
				list = append(list, r)
			}
		}
	}
	return list
}

// indexOf is the place of the point with an ID, -1 if there is none.
func indexOf(f api.Field, id int) int {
	return slices.IndexFunc(f.Points, func(p api.Point) bool { return p.ID == id })
}

// idsOf are the IDs of the points of a field.
func idsOf(f api.Field) []int {
	var list []int
	for _, p := range f.Points {
		list = append(list, p.ID)
	}
	return list
}

// scaled is the place of a point at a time, times Den, which is the same for all points.
func scaled(p api.Point, at api.Ratio) *big.Int {
	still := new(big.Int).Mul(big.NewInt(p.A), big.NewInt(at.Den))
	return still.Add(still, new(big.Int).Mul(big.NewInt(p.B), big.NewInt(at.Num)))
}

// isAhead follows the definition, by another program than layer 2.
func isAhead(p, q api.Point, at api.Ratio) bool {
	if k := scaled(p, at).Cmp(scaled(q, at)); k != 0 {
		return k > 0
	}
	return p.B > q.B || p.B == q.B && p.ID < q.ID
}
