package course

import (
	"math"
	"math/big"
	"testing"

	"peloton/api"
	"peloton/ratio"
)

const (
	most  = math.MaxInt64
	least = math.MinInt64
	coord = api.MaxCoord
)

// frac is a fraction as it is written, valid or not.
func frac(num, den int64) api.Ratio {
	return api.Ratio{Num: num, Den: den}
}

// pt is a point as it is written, valid or not.
func pt(id int, a, b int64) api.Point {
	return api.Point{ID: id, A: a, B: b}
}

// truth is the place of a point at a valid time, told by another program than this one, in range or not.
func truth(p api.Point, at api.Ratio) *big.Rat {
	x := big.NewRat(at.Num, at.Den)
	x.Mul(x, new(big.Rat).SetInt64(p.B))
	return x.Add(x, new(big.Rat).SetInt64(p.A))
}

// expected is the valid fraction that stands for x, or ErrRange.
func expected(x *big.Rat) (api.Ratio, api.Errno) {
	num, den := x.Num(), x.Denom()
	if !num.IsInt64() || !den.IsInt64() || num.Int64() == least {
		return api.Ratio{}, api.ErrRange
	}
	return frac(num.Int64(), den.Int64()), api.OK
}

// isAhead follows the definition word by word.
func isAhead(p, q api.Point, at api.Ratio) bool {
	switch truth(p, at).Cmp(truth(q, at)) {
	case 1:
		return true
	case -1:
		return false
	}
	if p.B != q.B {
		return p.B > q.B
	}
	return p.ID < q.ID
}

// meets is the meeting of two points with different speeds, by the definition: A + B t is the same for both.
func meets(p, q api.Point) api.Ratio {
	x := big.NewRat(q.A-p.A, p.B-q.B)
	return frac(x.Num().Int64(), x.Denom().Int64())
}

// mixer makes numbers that look mixed, the same ones in each run.
type mixer uint64

func (m *mixer) next() uint64 {
	*m = *m*6364136223846793005 + 1442695040888963407
	return uint64(*m) ^ uint64(*m)>>29
}

// number is a number of up to the given number of bits, short ones as often as long ones.
func (m *mixer) number(bits uint64) int64 {
	n := int64(m.next() >> (64 - bits) >> (m.next() % bits))
	if m.next()%2 == 0 {
		return -n
	}
	return n
}

func (m *mixer) point() api.Point {
	return pt(int(m.next()%(api.MaxID+1)), m.number(20), m.number(20))
}

func (m *mixer) time() api.Ratio {
	for {
		den := m.number(63)
		if t := frac(m.number(63), max(den, -den)); ratio.Check(t) == api.OK {
			return t
		}
	}
}

// points are valid ones: both ends of IDs, places and speeds, some with the same way, and some that meet at the same time.
func points() []api.Point {
	list := []api.Point{
		pt(1, 0, 2), pt(2, 6, -1), pt(5, 0, 0), pt(6, 0, 0), pt(4, 0, 2), pt(9, 2, 1),
		pt(0, coord, coord), pt(api.MaxID, coord, coord), pt(api.MaxID-1, -coord, -coord), pt(3, -coord, -coord),
		pt(7, coord, -coord), pt(8, -coord, coord), pt(10, coord, 0), pt(11, 0, coord), pt(12, -coord, 0), pt(13, 0, -coord),
		pt(14, coord-1, 1-coord), pt(15, 1-coord, coord-1), pt(16, coord-1, coord), pt(17, coord, coord-1),
		pt(18, 1, 0), pt(19, -1, 0), pt(20, 0, 1), pt(21, 0, -1), pt(22, -3, 6), pt(23, 7, 3),
	}
	m := mixer(7)
	for len(list) < 40 {
		p := m.point()
		p.ID = 100 + len(list)
		list = append(list, p)
	}
	return list
}

// times are valid ones of all sizes.
func times() []api.Ratio {
	var list []api.Ratio
	for _, r := range []api.Ratio{
		frac(1, 1), frac(1, 2), frac(2, 1), frac(3, 1), frac(6, 1), frac(7, 3), frac(1, coord), frac(coord, 1), frac(coord, coord-1),
		frac(1<<30, 1), frac(1<<30, 1023), frac(1, 1024), frac(most, 1), frac(1, most), frac(most, 2), frac(most, most-1), frac(most-1, most),
		frac(1<<62, 1), frac(1<<62, 3), frac(1<<62-1, 1<<62), frac(most>>20, 1), frac(1<<43, 1), frac(1<<43+1, 1<<21), frac(1, 1<<62), frac(1<<32, 1<<32-1),
	} {
		list = append(list, r, frac(-r.Num, r.Den))
	}
	return append(list, frac(0, 1))
}

// near are times close to t, before and after it, and t itself.
func near(t api.Ratio) []api.Ratio {
	list := []api.Ratio{t}
	for _, den := range []int64{1, 1024, 1 << 40} {
		before, e := ratio.Sub(t, frac(1, den))
		after, f := ratio.Add(t, frac(1, den))
		if e == api.OK && f == api.OK {
			list = append(list, before, after)
		}
	}
	return list
}

// forPairs calls f with all ordered pairs of points with different IDs, and with mixed ones.
func forPairs(t *testing.T, f func(p, q api.Point)) {
	t.Helper()
	list := points()
	for _, p := range list {
		for _, q := range list {
			if p.ID != q.ID {
				f(p, q)
			}
		}
	}
	m := mixer(2026)
	for range 3000 {
		if p, q := m.point(), m.point(); p.ID != q.ID {
			f(p, q)
		}
	}
}

// forTimes calls f with pairs of points and times: common ones, mixed ones, and those near the meeting.
func forTimes(t *testing.T, f func(p, q api.Point, at api.Ratio)) {
	t.Helper()
	m := mixer(11)
	forPairs(t, func(p, q api.Point) {
		list := append(times(), m.time(), m.time(), m.time())
		if p.B != q.B {
			list = append(list, near(meets(p, q))...)
		}
		for _, at := range list {
			f(p, q, at)
		}
	})
}

// ahead is Ahead of points and a time that are valid.
func ahead(t *testing.T, p, q api.Point, at api.Ratio) bool {
	t.Helper()
	ok, e := Ahead(p, q, at)
	if e != api.OK {
		t.Fatal(p, q, at, e)
	}
	return ok
}

// enough fails if a law was seen so seldom that it was hardly tested.
func enough(t *testing.T, seen int) {
	t.Helper()
	if seen < 1000 {
		t.Error("seen only", seen)
	}
}
