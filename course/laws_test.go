package course

import (
	"testing"

	"peloton/api"
	"peloton/ratio"
)

// less reports whether a is less than b, of two valid fractions.
func less(t *testing.T, a, b api.Ratio) bool {
	t.Helper()
	k, e := ratio.Cmp(a, b)
	if e != api.OK {
		t.Fatal(a, b, e)
	}
	return k < 0
}

// P2.4: of two points just one is ahead.
func TestJustOneIsAhead(t *testing.T) {
	forTimes(t, func(p, q api.Point, at api.Ratio) {
		if ahead(t, p, q, at) == ahead(t, q, p, at) {
			t.Fatal(p, q, at)
		}
	})
}

// P2.4: if p is ahead of q, and q of r, p is ahead of r, also where all meet.
func TestAheadIsTotal(t *testing.T) {
	seen := 0
	// The first four meet at 2, at the place 4, two of them with the same B.
	list := append([]api.Point{pt(30, 0, 2), pt(31, 6, -1), pt(32, 4, 0), pt(33, 0, 2)}, points()...)
	for _, at := range append(times(), near(frac(2, 1))...) {
		var rows [][]bool
		for i, p := range list {
			rows = append(rows, make([]bool, len(list)))
			for j, q := range list {
				rows[i][j] = p.ID != q.ID && ahead(t, p, q, at)
			}
		}
		for i := range list {
			for j := range list {
				for k := range list {
					if !rows[i][j] || !rows[j][k] {
						continue
					}
					seen++
					if !rows[i][k] {
						t.Fatal(list[i], list[j], list[k], at)
					}
				}
			}
		}
	}
	enough(t, seen)
}

// P2.4: from its meeting on the faster one is ahead, and before it the other one.
func TestFasterOneFromTheMeetingOn(t *testing.T) {
	seen := map[bool]int{}
	forTimes(t, func(p, q api.Point, at api.Ratio) {
		if p.B <= q.B {
			return
		}
		meeting, e := Meet(p, q)
		if e != api.OK {
			t.Fatal(p, q, e)
		}
		later := !less(t, at, meeting)
		seen[later]++
		if ahead(t, p, q, at) != later {
			t.Fatal(p, q, at, meeting)
		}
	})
	enough(t, seen[true])
	enough(t, seen[false])
}

// P2.4: as long as no meeting comes, who is ahead stays ahead.
func TestAheadStaysWithoutMeeting(t *testing.T) {
	seen, changes := 0, 0
	forPairs(t, func(p, q api.Point) {
		meeting, e := Meet(p, q)
		all := times()
		if e == api.OK {
			all = append(all, near(meeting)...)
		}
		for i, a := range all {
			b := all[(i*7+3)%len(all)]
			if !less(t, a, b) {
				continue
			}
			// A meeting comes if it is after a, and not after b.
			comes := e == api.OK && less(t, a, meeting) && !less(t, b, meeting)
			seen++
			if comes {
				changes++
			}
			if (ahead(t, p, q, a) != ahead(t, p, q, b)) != comes {
				t.Fatal(p, q, a, b, meeting)
			}
		}
	})
	enough(t, seen)
	enough(t, changes)
}

// P2.4: a failure time is not before now; before it high is ahead, and from it on low is; without one high stays ahead.
// Where high is behind now, but faster, the certificate fails now by the definition, and yet high is ahead again later: so low is ahead up to the next meeting.
func TestFailureTime(t *testing.T) {
	seen := map[bool]int{}
	back := 0
	forTimes(t, func(high, low api.Point, now api.Ratio) {
		r, ok, e := Fails(high, low, now)
		if e != api.OK || ok && less(t, r, now) {
			t.Fatal(high, low, now, r, ok, e)
		}
		seen[ok]++
		later := []api.Ratio{now, frac(most, 1), frac(0, 1), frac(coord, 1)}
		if ok {
			later = append(later, near(r)...)
		}
		meeting, none := Meet(high, low)
		for _, at := range later {
			if less(t, at, now) {
				continue
			}
			again := none == api.OK && ok && less(t, r, meeting) && !less(t, at, meeting)
			if again {
				back++
			}
			if fine := !ok || less(t, at, r) || again; ahead(t, high, low, at) != fine || ahead(t, low, high, at) == fine {
				t.Fatal(high, low, now, r, ok, at)
			}
		}
	})
	enough(t, seen[true])
	enough(t, seen[false])
	enough(t, back)
}
