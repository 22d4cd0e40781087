package field

import (
	"math"
	"math/big"
	"slices"
	"testing"

	"peloton/api"
	"peloton/ratio"
)

const (
	most  = math.MaxInt64
	least = math.MinInt64
	coord = api.MaxCoord
)

// frac is a fraction as it is written, valid or not.
func frac(num, den int64) api.Ratio {
	return api.Ratio{Num: num, Den: den}
}

// pt is a point as it is written, valid or not.
func pt(id int, a, b int64) api.Point {
	return api.Point{ID: id, A: a, B: b}
}

// of is a field of points as they are written, valid or not.
func of(points ...api.Point) api.Field {
	return api.Field{Points: points}
}

// example is the field of the chapter's examples.
func example() api.Field {
	return of(pt(1, 0, 2), pt(2, 6, -1), pt(5, 0, 0))
}

// many is a field of n points whose IDs start with the given one, where the point i has the way of i.
func many(n, first int, way func(i int64) (a, b int64)) api.Field {
	var f api.Field
	for i := range n {
		a, b := way(int64(i))
		f.Points = append(f.Points, pt(first+i, a, b))
	}
	return f
}

// scaled is the place of a point at a time, times Den, which is the same for all points.
func scaled(p api.Point, at api.Ratio) *big.Int {
	still := new(big.Int).Mul(big.NewInt(p.A), big.NewInt(at.Den))
	return still.Add(still, new(big.Int).Mul(big.NewInt(p.B), big.NewInt(at.Num)))
}

// ranked has the ID of each rank: who is ahead, and the rank, follow their definitions word by word, by another program than layer 2.
func ranked(f api.Field, at api.Ratio) []int {
	var places []*big.Int
	for _, p := range f.Points {
		places = append(places, scaled(p, at))
	}
	isAhead := func(i, j int) bool {
		p, q := f.Points[i], f.Points[j]
		if k := places[i].Cmp(places[j]); k != 0 {
			return k > 0
		}
		return p.B > q.B || p.B == q.B && p.ID < q.ID
	}
	list := make([]int, len(f.Points))
	for i, p := range f.Points {
		rank := 0
		for j := range f.Points {
			if j != i && isAhead(j, i) {
				rank++
			}
		}
		list[rank] = p.ID
	}
	return list
}

// mixer makes numbers that look mixed, the same ones in each run.
type mixer uint64

func (m *mixer) below(n int) int64 {
	*m = *m*6364136223846793005 + 1442695040888963407
	return int64((uint64(*m) ^ uint64(*m)>>29) >> 1 % uint64(n))
}

// field is a field of n points, whose places and speeds are small numbers up to size: so many meet, and many have the same way.
func (m *mixer) field(n, size int) api.Field {
	var f api.Field
	// The room between two IDs is such that 64 of them fit.
	id := int(m.below(3))
	for range n {
		f.Points = append(f.Points, pt(id, m.below(2*size+1)-int64(size), m.below(2*size+1)-int64(size)))
		id += 1 + int(m.below(4))*int(m.below(300))
	}
	return f
}

// fields are valid ones: without points, with both ends of all that is limited, with the same way, the same speed, and one meeting of all.
func fields() []api.Field {
	list := []api.Field{
		{}, {Points: []api.Point{}}, of(pt(0, 0, 0)), of(pt(api.MaxID, coord, -coord)), example(),
		of(pt(0, coord, coord), pt(1, coord, coord), pt(2, -coord, -coord), pt(65533, coord, -coord), pt(65534, -coord, coord), pt(65535, coord, coord)),
		of(pt(3, coord, coord), pt(4, coord-1, coord), pt(5, coord, coord-1), pt(6, 1-coord, -coord), pt(7, -coord, 1-coord)),
		// All are at the place 4 at the time 2, some with the same speed.
		many(20, 100, func(i int64) (a, b int64) { return 4 - 2*(i%7), i % 7 }),
		many(64, 0, func(i int64) (a, b int64) { return 4 - 2*(i*29%64), i * 29 % 64 }),
		// All are at the same place at all times.
		many(64, api.MaxID-63, func(int64) (a, b int64) { return 7, -3 }),
		// All have the same speed.
		many(63, 11, func(i int64) (a, b int64) { return i * 5 % 9, 6 }),
		// All start from the same place.
		many(30, 9, func(i int64) (a, b int64) { return -2, i * 11 % 30 }),
	}
	m := mixer(3)
	for _, n := range []int{1, 2, 2, 3, 3, 4, 5, 8, 13, 20, 40, 62, 63, 64, 64} {
		for _, size := range []int{1, 3, 20, coord} {
			list = append(list, m.field(n, size))
		}
	}
	return list
}

// times are valid ones of all sizes.
func times() []api.Ratio {
	list := []api.Ratio{frac(0, 1)}
	for _, r := range []api.Ratio{
		frac(1, 1), frac(1, 2), frac(2, 1), frac(3, 2), frac(7, 3), frac(6, 1), frac(7, 1), frac(1, 1024), frac(1<<30, 1), frac(1<<30, 1023),
		frac(1, coord), frac(coord, coord-1), frac(1<<43, 1), frac(most, 1), frac(1, most), frac(most-1, most), frac(most, most-1),
	} {
		list = append(list, r, frac(-r.Num, r.Den))
	}
	return list
}

// meetings are times at which points of a field meet, and times just before and after them: those of each point with the next one, and with the one behind that.
func meetings(f api.Field) []api.Ratio {
	var list []api.Ratio
	for step := 1; step <= 2; step++ {
		for i := step; i < len(f.Points); i++ {
			p, q := f.Points[i-step], f.Points[i]
			at, e := ratio.Make(q.A-p.A, p.B-q.B)
			if e != api.OK {
				continue
			}
			for _, tiny := range []api.Ratio{frac(-1, 1<<32), frac(0, 1), frac(1, 1<<32)} {
				if r, e := ratio.Add(at, tiny); e == api.OK {
					list = append(list, r)
				}
			}
		}
	}
	return list
}

// forTimes calls do with all fields, and with times for each one.
func forTimes(do func(f api.Field, at api.Ratio)) {
	for _, f := range fields() {
		list := append(times(), meetings(f)...)
		for i, at := range list {
			// A few times of a large field are enough.
			if len(f.Points) < 20 || i%5 == 0 || i < 9 {
				do(f, at)
			}
		}
	}
}

// same reports whether two fields are the same.
func same(f, g api.Field) bool {
	return slices.Equal(f.Points, g.Points)
}

// ids are the IDs of the points of a field, as they stand.
func ids(f api.Field) []int {
	var list []int
	for _, p := range f.Points {
		list = append(list, p.ID)
	}
	return list
}

// strangers are IDs that a valid field does not have: not valid ones, both ends, and those beside its own ones.
func strangers(f api.Field) []int {
	list := []int{-1, api.MaxID + 1, math.MinInt, math.MaxInt, 1 << 32, -1 << 32, 0, 1, api.MaxID / 2, api.MaxID}
	own := ids(f)
	for _, id := range own {
		list = append(list, id-1, id+1, id+1<<16, id+1<<32, -id)
	}
	return slices.DeleteFunc(list, func(id int) bool { return slices.Contains(own, id) })
}

// enough fails if something was seen so seldom that it was hardly tested.
func enough(t *testing.T, seen int) {
	t.Helper()
	if seen < 1000 {
		t.Error("seen only", seen)
	}
}
