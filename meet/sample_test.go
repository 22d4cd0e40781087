package meet_test

import (
	"cmp"
	"math"
	"math/big"
	"slices"
	"testing"

	"peloton/api"
	"peloton/ratio"
)

const (
	most  = math.MaxInt64
	least = math.MinInt64
	coord = api.MaxCoord
)

// frac is a fraction as it is written, valid or not.
func frac(num, den int64) api.Ratio {
	return api.Ratio{Num: num, Den: den}
}

// pt is a point as it is written, valid or not.
func pt(id int, a, b int64) api.Point {
	return api.Point{ID: id, A: a, B: b}
}

// of is a field of points as they are written, valid or not.
func of(points ...api.Point) api.Field {
	return api.Field{Points: points}
}

// example is the field of the chapter's examples.
func example() api.Field {
	return of(pt(1, 0, 2), pt(2, 6, -1), pt(5, 0, 0))
}

// many is a field of n points whose IDs start with the given one, where the point i has the way of i.
func many(n, first int, way func(i int64) (a, b int64)) api.Field {
	var f api.Field
	for i := range n {
		a, b := way(int64(i))
		f.Points = append(f.Points, pt(first+i, a, b))
	}
	return f
}

// mixer makes numbers that look mixed, the same ones in each run.
type mixer uint64

func (m *mixer) below(n int) int64 {
	*m = *m*6364136223846793005 + 1442695040888963407
	return int64((uint64(*m) ^ uint64(*m)>>29) >> 1 % uint64(n))
}

// field is a field of n points, whose places and speeds are numbers up to size: where it is small many meet at once, and many have the same way.
func (m *mixer) field(n, size int) api.Field {
	var f api.Field
	id := int(m.below(3))
	for range n {
		f.Points = append(f.Points, pt(id, m.below(2*size+1)-int64(size), m.below(2*size+1)-int64(size)))
		// The room between two IDs is such that 64 of them fit.
		id += 1 + int(m.below(4))*int(m.below(300))
	}
	return f
}

// apart are fields of which no two points meet.
func apart() []api.Field {
	return []api.Field{
		{}, {Points: []api.Point{}}, of(pt(0, 0, 0)), of(pt(api.MaxID, coord, -coord)),
		// The same speed, at the same place at all times, or not.
		of(pt(1, 0, 2), pt(2, 6, 2)), of(pt(1, 6, 2), pt(2, 6, 2)), of(pt(0, coord, coord), pt(api.MaxID, -coord, coord)),
		many(64, api.MaxID-63, func(int64) (a, b int64) { return 7, -3 }),
		many(63, 11, func(i int64) (a, b int64) { return i * 5 % 9, 6 }),
	}
}

// fields are valid ones: those without meetings, with both ends of all that is limited, with one meeting of all, and mixed ones.
func fields() []api.Field {
	list := append(apart(), example(),
		of(pt(0, coord, coord), pt(1, coord, coord), pt(2, -coord, -coord), pt(65533, coord, -coord), pt(65534, -coord, coord), pt(65535, coord, coord)),
		of(pt(3, coord, coord), pt(4, coord-1, coord), pt(5, coord, coord-1), pt(6, 1-coord, -coord), pt(7, -coord, 1-coord)),
		// Meetings that are close to each other: at 1 divided by 2^21, and by 2^21 less 1.
		of(pt(1, 0, coord), pt(2, 1, -coord), pt(3, 1, 1-coord)),
		// All are at the place 4 at the time 2, some with the same speed, or none.
		many(20, 100, func(i int64) (a, b int64) { return 4 - 2*(i%7), i % 7 }),
		many(64, 0, func(i int64) (a, b int64) { return 4 - 2*(i*29%64), i * 29 % 64 }),
		// All start from the same place.
		many(30, 9, func(i int64) (a, b int64) { return -2, i * 11 % 30 }),
		// Those with higher IDs catch up with those before them, many at once.
		many(64, 5, func(i int64) (a, b int64) { return -3 * i, i }),
		many(64, 1000, func(i int64) (a, b int64) { return coord - i*i*255, i*16644 - coord }),
	)
	m := mixer(4)
	for _, n := range []int{2, 2, 3, 3, 4, 5, 8, 13, 20, 40, 63, 64} {
		for _, size := range []int{1, 3, 20, coord} {
			list = append(list, m.field(n, size))
		}
	}
	return list
}

// told is a meeting, with its time as another program than this one tells it.
type told struct {
	at *big.Rat
	m  api.Meeting
}

// meetings are all meetings of a field, in order, by the definition: times at which A + B t is the same for both.
func meetings(f api.Field) []told {
	var list []told
	for i, p := range f.Points {
		for _, q := range f.Points[i+1:] {
			if p.B != q.B {
				at := big.NewRat(q.A-p.A, p.B-q.B)
				m := api.Meeting{At: frac(at.Num().Int64(), at.Denom().Int64()), I: min(p.ID, q.ID), J: max(p.ID, q.ID)}
				list = append(list, told{at, m})
			}
		}
	}
	slices.SortFunc(list, func(a, b told) int {
		return cmp.Or(a.at.Cmp(b.at), a.m.I-b.m.I, a.m.J-b.m.J)
	})
	return list
}

// between are those that come between two times.
func between(all []told, from, to api.Ratio) []api.Meeting {
	first, last := big.NewRat(from.Num, from.Den), big.NewRat(to.Num, to.Den)
	var list []api.Meeting
	for _, x := range all {
		if x.at.Cmp(first) > 0 && x.at.Cmp(last) <= 0 {
			list = append(list, x.m)
		}
	}
	return list
}

// pairs are the IDs of the points of meetings.
func pairs(list []api.Meeting) map[[2]int]bool {
	set := map[[2]int]bool{}
	for _, m := range list {
		set[[2]int{m.I, m.J}] = true
	}
	return set
}

// scaled has the place of each point at a time, times Den, which is the same for all points.
func scaled(f api.Field, at api.Ratio) []*big.Int {
	var list []*big.Int
	for _, p := range f.Points {
		still := new(big.Int).Mul(big.NewInt(p.A), big.NewInt(at.Den))
		list = append(list, still.Add(still, new(big.Int).Mul(big.NewInt(p.B), big.NewInt(at.Num))))
	}
	return list
}

// swapped are the pairs of which one point is ahead at from, and the other one at to; who is ahead follows its definition word by word.
func swapped(f api.Field, from, to api.Ratio) map[[2]int]bool {
	before, after := scaled(f, from), scaled(f, to)
	isAhead := func(places []*big.Int, i, j int) bool {
		p, q := f.Points[i], f.Points[j]
		if k := places[i].Cmp(places[j]); k != 0 {
			return k > 0
		}
		return p.B > q.B || p.B == q.B && p.ID < q.ID
	}
	set := map[[2]int]bool{}
	for j, q := range f.Points {
		for i, p := range f.Points[:j] {
			if isAhead(before, i, j) != isAhead(after, i, j) {
				set[[2]int{p.ID, q.ID}] = true
			}
		}
	}
	return set
}

// times are valid ones of all sizes.
func times() []api.Ratio {
	list := []api.Ratio{frac(0, 1)}
	for _, r := range []api.Ratio{
		frac(1, 1), frac(1, 2), frac(2, 1), frac(3, 1), frac(7, 3), frac(6, 1), frac(100, 7), frac(1, 1024), frac(1<<30, 1), frac(1<<30, 1023),
		frac(1, coord), frac(1, 2*coord), frac(2*coord, 1), frac(1<<43, 1), frac(1<<62, 5), frac(most, 1), frac(1, most), frac(most, most-1),
	} {
		list = append(list, r, frac(-r.Num, r.Den))
	}
	return list
}

// cuts are increasing times at which it pays to cut the time of a field: common ones, and those at which points meet, and just before and after it.
func cuts(all []told) []api.Ratio {
	list := times()
	for i := 0; i < len(all); i += 1 + len(all)/8 {
		for _, tiny := range []api.Ratio{frac(-1, 1<<40), frac(0, 1), frac(1, 1<<40)} {
			if r, e := ratio.Add(all[i].m.At, tiny); e == api.OK {
				list = append(list, r)
			}
		}
	}
	slices.SortFunc(list, func(a, b api.Ratio) int { return big.NewRat(a.Num, a.Den).Cmp(big.NewRat(b.Num, b.Den)) })
	return slices.Compact(list)
}

// forCuts calls do with all fields, with all meetings of each one, and with its cuts.
func forCuts(do func(f api.Field, all []told, at []api.Ratio)) {
	for _, f := range fields() {
		all := meetings(f)
		do(f, all, cuts(all))
	}
}

// forSpans calls do with all fields, with all meetings of each one, and with pairs of times, the lesser one first.
func forSpans(do func(f api.Field, all []told, from, to api.Ratio)) {
	forCuts(func(f api.Field, all []told, at []api.Ratio) {
		// A few spans of a large field are enough.
		step := 2 + len(f.Points)/2
		for i, from := range at {
			for j := i + i%step; j < len(at); j += step {
				do(f, all, from, at[j])
			}
		}
	})
}

// enough fails if something was seen so seldom that it was hardly tested.
func enough(t *testing.T, seen int) {
	t.Helper()
	if seen < 1000 {
		t.Error("seen only", seen)
	}
}
