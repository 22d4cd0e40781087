package crest_test

import (
	"math"
	"math/big"
	"slices"
	"testing"

	"peloton/api"
	"peloton/ratio"
)

const (
	most  = math.MaxInt64
	least = math.MinInt64
	coord = api.MaxCoord
)

// frac is a fraction as it is written, valid or not.
func frac(num, den int64) api.Ratio {
	return api.Ratio{Num: num, Den: den}
}

// pt is a point as it is written, valid or not.
func pt(id int, a, b int64) api.Point {
	return api.Point{ID: id, A: a, B: b}
}

// of is a field of points as they are written, valid or not.
func of(points ...api.Point) api.Field {
	return api.Field{Points: points}
}

// lead is a lead as it is written, valid or not.
func lead(id int, num, den int64) api.Lead {
	return api.Lead{From: frac(num, den), ID: id}
}

// row is a crest of leads as they are written, valid or not.
func row(leads ...api.Lead) []api.Lead {
	return leads
}

// example is the field of the chapter's examples.
func example() api.Field {
	return of(pt(1, 0, 2), pt(2, 6, -1), pt(5, 0, 0))
}

// many is a field of n points whose IDs start with the given one, where the point i has the way of i.
func many(n, first int, way func(i int64) (a, b int64)) api.Field {
	var f api.Field
	for i := range n {
		a, b := way(int64(i))
		f.Points = append(f.Points, pt(first+i, a, b))
	}
	return f
}

// inTurn are n points of which each one but the first leads after the one before it: the point i + 1 meets the point i at 2 i + 1, when all others are behind them.
func inTurn(n int) api.Field {
	return many(n, 0, func(i int64) (a, b int64) { return -i * i, i })
}

// mixer makes numbers that look mixed, the same ones in each run.
type mixer uint64

func (m *mixer) below(n int) int64 {
	*m = *m*6364136223846793005 + 1442695040888963407
	return int64((uint64(*m) ^ uint64(*m)>>29) >> 1 % uint64(n))
}

// field is a field of n points, whose places and speeds are numbers up to size: where it is small many meet at once, and many have the same way.
func (m *mixer) field(n, size int) api.Field {
	var f api.Field
	id := int(m.below(3))
	for range n {
		f.Points = append(f.Points, pt(id, m.below(2*size+1)-int64(size), m.below(2*size+1)-int64(size)))
		// The room between two IDs is such that 64 of them fit.
		id += 1 + int(m.below(4))*int(m.below(300))
	}
	return f
}

// curved is a field of n points of which many lead: the faster a point is, the further behind it is at 0, and only somewhat more or less.
func (m *mixer) curved(n int) api.Field {
	f := m.field(n, 3)
	for i, speed := range m.mixed(n) {
		f.Points[i].B = speed - int64(n/2)
		f.Points[i].A -= f.Points[i].B * f.Points[i].B * 3
	}
	return f
}

// mixed are the numbers below n, in mixed order.
func (m *mixer) mixed(n int) []int64 {
	var list []int64
	for i := range n {
		list = slices.Insert(list, int(m.below(i+1)), int64(i))
	}
	return list
}

// still are fields of which one point leads at all times.
func still() []api.Field {
	return []api.Field{
		of(pt(0, 0, 0)), of(pt(api.MaxID, coord, -coord)),
		// The same speed, at the same place at all times, or not.
		of(pt(1, 0, 2), pt(2, 6, 2)), of(pt(1, 6, 2), pt(2, 6, 2)), of(pt(0, coord, coord), pt(api.MaxID, -coord, coord)),
		many(64, api.MaxID-63, func(int64) (a, b int64) { return 7, -3 }),
		many(63, 11, func(i int64) (a, b int64) { return i * 5 % 9, 6 }),
	}
}

// fields are valid ones with points: those of which one leads at all times, with both ends of all that is limited, where many meet at once, where many lead, and mixed ones.
func fields() []api.Field {
	list := append(still(), example(),
		of(pt(0, coord, coord), pt(1, coord, coord), pt(2, -coord, -coord), pt(65533, coord, -coord), pt(65534, -coord, coord), pt(65535, coord, coord)),
		of(pt(3, coord, coord), pt(4, coord-1, coord), pt(5, coord, coord-1), pt(6, 1-coord, -coord), pt(7, -coord, 1-coord)),
		// Changes that are close to each other: at 1 divided by 2^21 less 1, and by 2^21.
		of(pt(1, 0, coord), pt(2, 1, -coord), pt(3, 1, 1-coord)),
		// All are at the place 4 at the time 2, some with the same speed, or none.
		many(20, 100, func(i int64) (a, b int64) { return 4 - 2*(i%7), i % 7 }),
		many(64, 0, func(i int64) (a, b int64) { return 4 - 2*(i*29%64), i * 29 % 64 }),
		// All start from the same place.
		many(30, 9, func(i int64) (a, b int64) { return -2, i * 11 % 30 }),
		inTurn(2), inTurn(9), inTurn(64),
		many(64, 1000, func(i int64) (a, b int64) { return coord - i*i*255, i*16644 - coord }),
	)
	m := mixer(5)
	for _, n := range []int{2, 2, 3, 3, 4, 5, 8, 13, 20, 40, 63, 64} {
		for _, size := range []int{1, 3, 20, coord} {
			list = append(list, m.field(n, size))
		}
		list = append(list, m.curved(n), m.curved(n))
	}
	return list
}

// rat is a fraction of another program than this one.
func rat(r api.Ratio) *big.Rat {
	return big.NewRat(r.Num, r.Den)
}

// earlier compares fractions by another program than this one.
func earlier(a, b api.Ratio) int {
	return rat(a).Cmp(rat(b))
}

// place is the place of a point at a time, times the time's Den, which is the same for all points.
func place(p api.Point, at api.Ratio) *big.Int {
	still := new(big.Int).Mul(big.NewInt(p.A), big.NewInt(at.Den))
	return still.Add(still, new(big.Int).Mul(big.NewInt(p.B), big.NewInt(at.Num)))
}

// isAhead reports whether p is ahead of q; it follows the definition word by word: by place, then by speed, then by the lesser ID.
func isAhead(p, q api.Point, at api.Ratio) bool {
	if k := place(p, at).Cmp(place(q, at)); k != 0 {
		return k > 0
	}
	return p.B > q.B || p.B == q.B && p.ID < q.ID
}

// leader is the point that is ahead of all others.
func leader(points []api.Point, at api.Ratio) api.Point {
	first := points[0]
	for _, p := range points[1:] {
		if isAhead(p, first, at) {
			first = p
		}
	}
	return first
}

// meetings are the times at which points of a field meet, in order, each one once.
func meetings(f api.Field) []api.Ratio {
	var list []api.Ratio
	for i, p := range f.Points {
		for _, q := range f.Points[i+1:] {
			if p.B != q.B {
				at := big.NewRat(q.A-p.A, p.B-q.B)
				list = append(list, frac(at.Num().Int64(), at.Denom().Int64()))
			}
		}
	}
	slices.SortFunc(list, earlier)
	return slices.Compact(list)
}

// crests makes a function that tells the crest of a field from a time on, by the definition: it looks who leads at each time at which any two points meet.
func crests(f api.Field) func(from api.Ratio) []api.Lead {
	var all []api.Lead
	for _, at := range meetings(f) {
		all = append(all, api.Lead{From: at, ID: leader(f.Points, at).ID})
	}
	return func(from api.Ratio) []api.Lead {
		list := row(api.Lead{From: from, ID: leader(f.Points, from).ID})
		for _, x := range all {
			if earlier(from, x.From) < 0 && list[len(list)-1].ID != x.ID {
				list = append(list, x)
			}
		}
		return list
	}
}

// leadAt is the ID of the lead of a crest at a time, by the definition: the last one whose time is not greater.
func leadAt(l []api.Lead, at api.Ratio) (int, bool) {
	id, found := 0, false
	for _, x := range l {
		if earlier(x.From, at) <= 0 {
			id, found = x.ID, true
		}
	}
	return id, found
}

// byID is the point with an ID that a field has.
func byID(f api.Field, id int) api.Point {
	return f.Points[slices.IndexFunc(f.Points, func(p api.Point) bool { return p.ID == id })]
}

// merged is the merged crest of two, by the definition: it looks who leads at each time at which a crest has a lead, or any two points meet.
func merged(f api.Field, a, b []api.Lead) []api.Lead {
	times := meetings(f)
	for _, x := range slices.Concat(a, b) {
		times = append(times, x.From)
	}
	slices.SortFunc(times, earlier)
	var list []api.Lead
	for _, at := range slices.Compact(times) {
		p, found := leadAt(a, at)
		if !found {
			continue
		}
		q, _ := leadAt(b, at)
		first := leader([]api.Point{byID(f, p), byID(f, q)}, at).ID
		if len(list) == 0 || list[len(list)-1].ID != first {
			list = append(list, api.Lead{From: at, ID: first})
		}
	}
	return list
}

// times are valid ones of all sizes.
func times() []api.Ratio {
	list := []api.Ratio{frac(0, 1)}
	for _, r := range []api.Ratio{
		frac(1, 1), frac(1, 2), frac(2, 1), frac(3, 1), frac(7, 3), frac(6, 1), frac(100, 7), frac(1, 1024), frac(1<<30, 1), frac(1<<30, 1023),
		frac(1, coord), frac(1, 2*coord), frac(2*coord, 1), frac(1<<43, 1), frac(1<<62, 5), frac(most, 1), frac(1, most), frac(most, most-1),
	} {
		list = append(list, r, frac(-r.Num, r.Den))
	}
	return list
}

// cuts are increasing times at which it pays to look at a crest: common ones, and those of its leads, and just before and after them.
func cuts(l []api.Lead) []api.Ratio {
	list := times()
	for i := 0; i < len(l); i += 1 + len(l)/12 {
		for _, tiny := range []api.Ratio{frac(-1, 1<<40), frac(0, 1), frac(1, 1<<40)} {
			if r, e := ratio.Add(l[i].From, tiny); e == api.OK {
				list = append(list, r)
			}
		}
	}
	slices.SortFunc(list, earlier)
	return slices.Compact(list)
}

// always is the first of all valid times.
var always = frac(-most, 1)

// forCrests calls do with all fields, with a function that tells the crest of each one, and with times, in order.
func forCrests(do func(f api.Field, crest func(from api.Ratio) []api.Lead, at []api.Ratio)) {
	for _, f := range fields() {
		crest := crests(f)
		do(f, crest, cuts(crest(always)))
	}
}

// crest is a valid crest of n leads with points of a field, from a time on, which needs not be the crest of any points: what leads next, and when, is by chance. A crest of one point has one lead.
func (m *mixer) crest(f api.Field, from api.Ratio, n int) []api.Lead {
	var list []api.Lead
	last := -1
	for len(list) < n {
		k := m.below(len(f.Points))
		id := f.Points[k].ID
		if id == last {
			id = f.Points[(int(k)+1)%len(f.Points)].ID
		}
		if id == last {
			break
		}
		list, last = append(list, api.Lead{From: from, ID: id}), id
		// Steps such that two crests often change at once, or at a meeting.
		from, _ = ratio.Add(from, []api.Ratio{frac(1, 2), frac(1, 2), frac(1, 1), frac(1, 3), frac(2, 3), frac(7, 1)}[m.below(6)])
	}
	return list
}

// forPairs calls do with fields and two crests of the points of each one that begin at the same time.
func forPairs(do func(f api.Field, a, b []api.Lead)) {
	m := mixer(77)
	for _, f := range fields() {
		for i, from := range []api.Ratio{frac(0, 1), frac(-5, 1), frac(-1, 2), frac(1, 3), frac(-100, 7), frac(1<<30, 1023), frac(-3, 1), frac(-2, 1)} {
			if len(f.Points) > 20 && i > 0 {
				continue
			}
			for _, n := range []int{1, 2, 7, 25} {
				do(f, m.crest(f, from, n), m.crest(f, from, 1+int(m.below(n+3))))
			}
		}
	}
}

// enough fails if something was seen so seldom that it was hardly tested.
func enough(t *testing.T, seen int) {
	t.Helper()
	if seen < 1000 {
		t.Error("seen only", seen)
	}
}
