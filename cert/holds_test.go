package cert_test

import (
	"slices"
	"testing"

	"peloton/api"
	"peloton/cert"
)

func wantOf(t *testing.T, c api.Certs, id int, want []int, e api.Errno) {
	t.Helper()
	if list, f := cert.Of(c, id); !slices.Equal(list, want) || f != e {
		t.Fatal("of", c, id, list, f, want, e)
	}
}

func wantHolds(t *testing.T, c api.Certs, f api.Field, at api.Ratio, want []int, e api.Errno) {
	t.Helper()
	if list, g := cert.Holds(c, f, at); !slices.Equal(list, want) || g != e {
		t.Fatal("holds", c, f, at, list, g, want, e)
	}
}

// P8.3: Of a point that is named as Low, as High, as both in two certificates, and of those that are not named.
func TestOf(t *testing.T) {
	c := of(20, held(1, 0, 5), held(4, 5, 6), held(6, 7, 8), held(7, 6, 5), held(19, top, 0))
	for _, x := range []struct {
		id   int
		want []int
	}{
		{8, numbers(6)}, {7, numbers(6)}, {top, numbers(19)}, {0, numbers(1, 19)}, {6, numbers(4, 7)}, {5, numbers(1, 4, 7)},
		{1, nil}, {4, nil}, {9, nil}, {19, nil}, {top - 1, nil},
		{-1, nil}, {-5, nil}, {top + 1, nil}, {1<<16 + 5, nil}, {1<<32 + 5, nil}, {most, nil}, {least, nil},
	} {
		wantOf(t, c, x.id, x.want, api.OK)
	}
	for _, id := range append(few(), -1, top+1, most, least) {
		wantOf(t, of(5), id, nil, api.OK)
	}
}

// P8.3: a point may be named by all certificates of a store, as Low, as High, or as one after the other.
func TestOfMost(t *testing.T) {
	all := make([]int, 200)
	for i := range all {
		all[i] = 3 * i
	}
	for _, high := range []func(i int) bool{func(int) bool { return true }, func(int) bool { return false }, func(i int) bool { return i%2 == 0 }} {
		c := of(600)
		for i, n := range all {
			x := held(n, 7, 8+i)
			if high(i) {
				x.Cert = turned(x.Cert)
			}
			c.List = append(c.List, x)
		}
		wantOf(t, c, 7, all, api.OK)
		wantOf(t, c, 6, nil, api.OK)
		for i, n := range all {
			wantOf(t, c, 8+i, numbers(n), api.OK)
		}
	}
}

// P8.3: Of, against the promise.
func TestOfByPromise(t *testing.T) {
	some, none := 0, 0
	for _, c := range goodStores() {
		ids := append(few(), -1, top+1, most, least)
		for i := 0; i < len(c.List); i += 1 + len(c.List)/20 {
			x := c.List[i].Cert
			ids = append(ids, x.Low, x.High, x.High+1, x.Low-1, -x.Low, x.High+1<<16)
		}
		for _, id := range ids {
			want := naming(c, id)
			wantOf(t, c, id, want, api.OK)
			if len(want) > 0 {
				some++
			} else {
				none++
			}
		}
	}
	enough(t, some)
	enough(t, none)
}

// P8.3: Holds before, at and after meetings.
func TestHolds(t *testing.T) {
	// 2 is ahead of 1 before 2, 2 of 5 before 6, 1 of 5 from 0 on; and the exchanged ones.
	c := of(9, held(0, 2, 1), held(2, 2, 5), held(3, 1, 5), held(5, 1, 2), held(6, 5, 2), held(8, 5, 1))
	for _, x := range []struct {
		at   api.Ratio
		want []int
	}{
		{whole(-most), numbers(0, 2, 8)}, {whole(-1), numbers(0, 2, 8)}, {frac(-1, most), numbers(0, 2, 8)},
		{whole(0), numbers(0, 2, 3)}, {frac(1, most), numbers(0, 2, 3)}, {whole(1), numbers(0, 2, 3)}, {frac(2*1024-1, 1024), numbers(0, 2, 3)},
		{whole(2), numbers(2, 3, 5)}, {frac(2*1024+1, 1024), numbers(2, 3, 5)}, {whole(5), numbers(2, 3, 5)},
		{whole(6), numbers(3, 5, 6)}, {whole(7), numbers(3, 5, 6)}, {whole(most), numbers(3, 5, 6)},
	} {
		wantHolds(t, c, moving(), x.at, x.want, api.OK)
	}
	wantHolds(t, example(), standing(), whole(0), numbers(0), api.OK)
	wantHolds(t, three(), standing(), frac(-7, 3), numbers(2), api.OK)
	wantHolds(t, of(4, held(1, 1, 2), held(2, 1, 3), held(3, 2, 3)), standing(), whole(9), nil, api.OK)
	wantHolds(t, of(4, held(1, 2, 1), held(2, 3, 1), held(3, 3, 2)), standing(), whole(9), numbers(1, 2, 3), api.OK)
}

// P8.3: of points at the same place the faster one is ahead, and then the lesser ID.
func TestHoldsAtTheSamePlace(t *testing.T) {
	// All are at the place 4 at the time 2.
	f := points(pt(1, 0, 2), pt(2, 6, -1), pt(3, 4, 0), pt(4, 0, 2), pt(9, -6, 5))
	c := of(100)
	for _, high := range idsOf(f) {
		for _, low := range idsOf(f) {
			if high != low {
				c.List = append(c.List, held(10*high+low, high, low))
			}
		}
	}
	wantHolds(t, c, f, whole(2), numbers(12, 13, 14, 32, 42, 43, 91, 92, 93, 94), api.OK)
	wantHolds(t, c, f, frac(2047, 1024), numbers(14, 19, 21, 23, 24, 29, 31, 34, 39, 49), api.OK)
	// All are at the same place at all times.
	f = many(64, top-63, func(int64) (a, b int64) { return 7, -3 })
	c = of(2, held(0, top-63, top), held(1, top, top-63))
	for _, at := range times() {
		wantHolds(t, c, f, at, numbers(0), api.OK)
	}
}

// P8.3: at times at which places are out of range Holds is right all the same.
func TestHoldsFarAway(t *testing.T) {
	f := points(pt(0, coord, -coord), pt(1, -coord, coord), pt(2, 1-coord, coord))
	c := of(9, held(0, 0, 1), held(1, 1, 0), held(2, 1, 2), held(3, 2, 1))
	wantHolds(t, c, f, whole(most), numbers(1, 3), api.OK)
	wantHolds(t, c, f, whole(-most), numbers(0, 3), api.OK)
	wantHolds(t, c, f, frac(most, most-1), numbers(1, 3), api.OK)
	wantHolds(t, c, f, frac(most-1, most), numbers(0, 3), api.OK)
	wantHolds(t, c, f, whole(1), numbers(1, 3), api.OK)
}

// P8.3: a field that has not each of the points that are named is ErrNone, whichever is missing; one that has more of them is right.
func TestHoldsNone(t *testing.T) {
	for _, x := range []struct {
		c  api.Certs
		id int
	}{
		{example(), 1}, {example(), 2}, {example(), 3}, {of(9, held(4, 1, 3)), 1}, {of(9, held(4, 1, 3)), 3}, {chain(63), 0}, {chain(63), 1}, {chain(63), 40}, {chain(63), 63},
	} {
		f := many(64, 0, func(i int64) (a, b int64) { return i, 0 })
		want, _ := holds(x.c, f, whole(1))
		wantHolds(t, x.c, f, whole(1), want, api.OK)
		f.Points = slices.Delete(f.Points, x.id, x.id+1)
		wantHolds(t, x.c, f, whole(1), nil, api.ErrNone)
	}
	for _, c := range []api.Certs{example(), three(), chain(1), chain(200), late(1), of(1, held(0, 0, top)), of(1, held(0, top, 0))} {
		wantHolds(t, c, api.Field{}, whole(1), nil, api.ErrNone)
		wantHolds(t, c, points(pt(1, 0, 0)), whole(1), nil, api.ErrNone)
		wantHolds(t, c, points(pt(0, 0, 0), pt(2, 0, 0)), whole(1), nil, api.ErrNone)
	}
	// A certificate about others does not matter where it comes: before or behind one that holds, or in between.
	for _, c := range []api.Certs{of(9, held(0, 2, 1), held(1, 3, 2), held(2, 8, 1)), of(9, held(0, 1, 8), held(1, 3, 2), held(2, 2, 1)), of(9, held(0, 2, 1), held(1, 8, 9), held(2, 3, 2))} {
		wantHolds(t, c, standing(), whole(1), nil, api.ErrNone)
	}
}

// P8.3: in a store without certificates none holds, for any field and time that are valid, also without points.
func TestHoldsOfNothing(t *testing.T) {
	for _, f := range fields() {
		for _, at := range times() {
			for _, c := range []api.Certs{{}, of(7), of(limit), of(0, []api.Held{}...)} {
				wantHolds(t, c, f, at, nil, api.OK)
			}
		}
	}
}

// P8.3: the error of the field comes first, then that of the time, and then that of points that are not there.
func TestHoldsErrors(t *testing.T) {
	all := slices.Concat(badTimes(), times())
	for _, c := range []api.Certs{{}, of(limit), example(), three(), chain(200), late(200)} {
		for e, list := range badFields() {
			for _, f := range list {
				for _, at := range all {
					wantHolds(t, c, f, at, nil, e)
				}
			}
		}
		for _, f := range fields() {
			for _, at := range badTimes() {
				wantHolds(t, c, f, at, nil, api.ErrBad)
			}
		}
	}
}

// forHolds calls do with fields, with stores about their points, and with times for each one, among which there are meetings.
func forHolds(do func(c api.Certs, f api.Field, at api.Ratio)) {
	m := mixer(83)
	for _, f := range fields() {
		if len(f.Points) < 2 {
			continue
		}
		for _, n := range []int{1, 2, 5, 12, 200} {
			c := m.store(n, idsOf(f))
			list := append(times(), meetings(c, f)...)
			for i, at := range list {
				// A few times of a large store are enough.
				if len(c.List) < 20 || i%9 == 0 || i < 9 {
					do(c, f, at)
				}
			}
		}
	}
}

// P8.3: Holds, against the promise.
func TestHoldsByPromise(t *testing.T) {
	yes, no := 0, 0
	forHolds(func(c api.Certs, f api.Field, at api.Ratio) {
		want, e := holds(c, f, at)
		wantHolds(t, c, f, at, want, e)
		yes += len(want)
		no += len(c.List) - len(want)
	})
	enough(t, yes)
	enough(t, no)
}
