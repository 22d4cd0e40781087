package bracket_test

import (
	"slices"
	"testing"

	"peloton/api"
	"peloton/bracket"
	"peloton/course"
	"peloton/field"
)

// P10.4: the winner of a bracket that is right is ahead of all others: it is the leader of the field of its points.
func TestWinnerLeads(t *testing.T) {
	m := mixer(107)
	seen := 0
	for i := range 6000 {
		f := m.field(1 + m.below(4+i%9))
		if i%100 == 0 {
			f = m.field(64)
		}
		at := m.time(f)
		b := made(t, f, at, m.places(f, min(1+m.below(len(f.Points)+4), 64), m.pick(0, 0, 3)))
		own := only(f, b.Places...)
		id, e := bracket.Winner(b)
		leader, g := field.Leader(own, at)
		if id != leader || e != g {
			t.Fatal(b, f, at, id, e, leader, g)
		}
		first, _ := point(f, id)
		for _, q := range own.Points {
			if q.ID == id {
				continue
			}
			if ahead, e := course.Ahead(first, q, at); !ahead || e != api.OK {
				t.Fatal(b, f, at, first, q, e)
			}
			seen++
		}
	}
	enough(t, seen)
}

// P10.4: the same for brackets that Right tells right, wherever they come from, and so for each node and the places below it.
func TestWinnersLead(t *testing.T) {
	m := mixer(108)
	seen := 0
	for i := range 6000 {
		s := m.stage(2 + i%6)
		if !right(t, s.b, s.f, s.at) {
			continue
		}
		for i, id := range s.b.Wins {
			leader, e := field.Leader(only(s.f, under(s.b.Places, i)...), s.at)
			if e == api.ErrEmpty {
				leader = -1
			}
			if id != leader {
				t.Fatal(s, i, id, leader)
			}
			seen++
		}
	}
	enough(t, seen)
}

// P10.4: what Build makes is valid and right.
func TestBuiltIsRight(t *testing.T) {
	m := mixer(109)
	for i := range 4000 {
		f := m.field(m.below(4 + i%60))
		at := m.time(f)
		b := made(t, f, at, m.places(f, 1+m.below(64), m.pick(0, 2, 9)))
		if e := bracket.Check(b); e != api.OK || !right(t, b, f, at) {
			t.Fatal(b, f, at, e)
		}
	}
}

// P10.4: a bracket that is right is right after each ID that is set, and the one that Build makes of its places.
func TestStaysRight(t *testing.T) {
	m := mixer(110)
	seen := 0
	for i := range 300 {
		f := m.field(1 + m.below(3+i%30))
		at := m.time(f)
		n := 1 + m.below(min(64, len(f.Points)+5))
		b := made(t, f, at, empties(n))
		for range 30 {
			place := m.below(n)
			id := m.pick(append(idsOf(f), -1, -1)...)
			r, _, e := bracket.Set(b, f, at, place, id)
			if e == api.ErrTwice {
				continue
			}
			if e != api.OK || !right(t, r, f, at) || !same(r, made(t, f, at, r.Places)) {
				t.Fatal(b, f, at, place, id, r, e)
			}
			b = r
			seen++
		}
	}
	enough(t, seen)
}

// P10.4: a bracket can be put together by setting all IDs, in whatever order, and emptied again.
func TestSetOneByOne(t *testing.T) {
	m := mixer(111)
	for i := range 200 {
		f := m.field(1 + i%64)
		at := m.time(f)
		places := m.places(f, 1+m.below(64), m.pick(0, 3))
		want := made(t, f, at, places)
		b := of(empties(len(places)), empties(len(places)-1)...)
		for _, place := range m.mixed(upTo(len(places))) {
			b, _ = set(t, b, f, at, place, places[place])
		}
		if !same(b, want) {
			t.Fatal(f, at, places, b, want)
		}
		for _, place := range m.mixed(upTo(len(places))) {
			b, _ = set(t, b, f, at, place, -1)
		}
		if !same(b, of(empties(len(places)), empties(len(places)-1)...)) {
			t.Fatal(f, at, places, b)
		}
	}
}

// P10.4: what was set and is set back again leaves a bracket that was right as it was.
func TestSetBack(t *testing.T) {
	m := mixer(112)
	seen := 0
	for i := range 6000 {
		s := m.stage(1 + i%12)
		if !right(t, s.b, s.f, s.at) {
			continue
		}
		place := m.below(len(s.b.Places))
		r, there, e := bracket.Set(s.b, s.f, s.at, place, m.pick(append(idsOf(s.f), -1)...))
		if e != api.OK {
			continue
		}
		back, again := set(t, r, s.f, s.at, place, s.b.Places[place])
		if !same(back, s.b) || !slices.Equal(there, again) {
			t.Fatal(s, place, r, back, there, again)
		}
		seen++
	}
	enough(t, seen)
}

// P10.4: nodes that are not on the path keep their winners, and places their IDs; those that are told are just those with another winner; and a bracket stays valid, right or not.
func TestBesideThePath(t *testing.T) {
	m := mixer(113)
	beside, changed := 0, 0
	for i := range 8000 {
		s := m.stage(1 + i%12)
		if i%100 == 0 {
			s = m.stage(64)
		}
		place := m.below(len(s.b.Places))
		id := m.pick(append(idsOf(s.f), -1)...)
		r, list, e := bracket.Set(s.b, s.f, s.at, place, id)
		if e != api.OK {
			continue
		}
		if e := bracket.Check(r); e != api.OK || r.Places[place] != id {
			t.Fatal(s, place, id, r, e)
		}
		way := path(t, s.b, place)
		if !slices.Equal(way, path(t, r, place)) {
			t.Fatal(s, place, id, r)
		}
		for k := range s.b.Places {
			if k != place && r.Places[k] != s.b.Places[k] {
				t.Fatal(s, place, id, r, k)
			}
		}
		for k := range s.b.Wins {
			on, other := slices.Contains(way, k), r.Wins[k] != s.b.Wins[k]
			if other && !on || other != slices.Contains(list, k) {
				t.Fatal(s, place, id, r, list, k)
			}
			if !on {
				beside++
			}
		}
		if !slices.IsSortedFunc(list, func(i, k int) int { return k - i }) {
			t.Fatal(s, place, id, list)
		}
		changed += len(list)
	}
	enough(t, beside)
	enough(t, changed)
}

// P10.4: a path has at most six nodes, and no more are told by Set; six come up where there are more than 32 places, and none with one place.
func TestPathIsShort(t *testing.T) {
	for n := 1; n <= 64; n++ {
		b := of(empties(n), empties(n-1)...)
		longest := 0
		for place := range n {
			way := path(t, b, place)
			_, changed := set(t, b, standing(64), whole(1), place, 7)
			if len(way) > 6 || !slices.Equal(changed, way) {
				t.Error(n, place, way, changed)
			}
			longest = max(longest, len(way))
		}
		if longest == 6 != (n > 32) || longest == 0 != (n == 1) {
			t.Error(n, longest)
		}
	}
}

// P10.4: a path goes from the node above a place to the root, each node to the one above it, and a place is below just the nodes of its path.
func TestPathGoesUp(t *testing.T) {
	for n := 1; n <= 64; n++ {
		b := of(empties(n), empties(n-1)...)
		for place := range n {
			node := n - 1 + place
			way := path(t, b, place)
			for _, i := range way {
				if 2*i+1 != node && 2*i+2 != node {
					t.Fatal(n, place, way)
				}
				node = i
			}
			if node != 0 {
				t.Fatal(n, place, way)
			}
			for i := range n - 1 {
				if slices.Contains(under(upTo(n), i), place) != slices.Contains(way, i) {
					t.Fatal(n, place, way, i)
				}
			}
		}
	}
}

// P10.4: at another time replaying the paths of all places makes a bracket right again, whatever its winners were.
func TestMended(t *testing.T) {
	m := mixer(114)
	mended := 0
	for i := range 1500 {
		s := m.stage(1 + i%20)
		b := s.b
		if !right(t, b, s.f, s.at) {
			mended++
		}
		for _, place := range m.mixed(upTo(len(b.Places))) {
			b, _ = set(t, b, s.f, s.at, place, b.Places[place])
		}
		if !right(t, b, s.f, s.at) || !slices.Equal(b.Places, s.b.Places) {
			t.Fatal(s, b)
		}
	}
	if mended < 200 {
		t.Error(mended)
	}
}
