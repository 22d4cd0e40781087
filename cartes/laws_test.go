package cartes_test

import (
	"slices"
	"testing"

	"peloton/api"
	"peloton/cartes"
	"peloton/course"
	"peloton/field"
	"peloton/meet"
	"peloton/ratio"
)

// forFields does something with many fields at times, of a few points mostly, and some of 64.
func forFields(seed uint64, times int, do func(m *mixer, f api.Field, at api.Ratio)) {
	m := mixer(seed)
	for i := range times {
		f := m.field(m.below(4 + i%12))
		if i%100 == 0 {
			f = m.field(64)
		}
		do(&m, f, m.time(f))
	}
}

// isAheadBelow reports whether the point of each node is ahead of those of the nodes on both of its sides, as layer 2 tells it.
func isAheadBelow(t *testing.T, x api.Tree, f api.Field, at api.Ratio) bool {
	t.Helper()
	for _, d := range x.Nodes {
		for _, i := range ids(d.Left, d.Right) {
			if i == -1 {
				continue
			}
			p, _ := point(f, d.ID)
			q, _ := point(f, x.Nodes[i].ID)
			ahead, e := course.Ahead(p, q, at)
			if e != api.OK {
				t.Fatal(x, f, at, e)
			}
			if !ahead {
				return false
			}
		}
	}
	return true
}

// P11.5: a tree of all points in which each one is ahead of those below it is the tree of the field, and no other one is.
func TestThereIsOne(t *testing.T) {
	one, others := 0, 0
	forFields(107, 4000, func(m *mixer, f api.Field, at api.Ratio) {
		want := treeOf(t, f, at)
		if !isAheadBelow(t, want, f, at) || !right(t, want, f, at) {
			t.Fatal(f, at, want)
		}
		for range 5 {
			x := m.tree(idsOf(f))
			is := isAheadBelow(t, x, f, at)
			alike, e := cartes.Same(x, want)
			if is != same(x, want) || is != right(t, m.scattered(x), f, at) || is != alike || e != api.OK {
				t.Fatal(f, at, x, want, is, alike, e)
			}
			if is {
				one++
			} else {
				others++
			}
		}
	})
	enough(t, one)
	enough(t, others)
}

// P11.5: the tree is valid and in order, with the IDs of all points.
func TestOfIsValid(t *testing.T) {
	forFields(108, 3000, func(m *mixer, f api.Field, at api.Ratio) {
		x := treeOf(t, f, at)
		wantCheck(t, x, api.OK)
		wantIDs(t, x, idsOf(f), api.OK)
		if !inOrder(x) || len(x.Nodes) != len(f.Points) {
			t.Fatal(f, at, x)
		}
	})
}

// P11.5: the root is the leader, and no tree without a root has one.
func TestRootLeads(t *testing.T) {
	forFields(109, 4000, func(m *mixer, f api.Field, at api.Ratio) {
		x := treeOf(t, f, at)
		id, e := field.Leader(f, at)
		if e == api.ErrEmpty && x.Root == -1 {
			return
		}
		if e != api.OK || x.Root == -1 || x.Nodes[x.Root].ID != id {
			t.Fatal(f, at, x, id, e)
		}
		wantDepth(t, x, id, 0, api.OK)
	})
}

// P11.5: the sides of each node are the trees of the points with lesser IDs, and with greater ones, that are below it.
func TestSidesAreTrees(t *testing.T) {
	seen := 0
	forFields(110, 1500, func(m *mixer, f api.Field, at api.Ratio) {
		x := treeOf(t, f, at)
		for i, d := range x.Nodes {
			below := only(f, under(x, i)...)
			low, high := between(below, 0, d.ID), between(below, d.ID+1, most)
			if !same(treeOf(t, below, at), twigs(x, i).tree()) || !same(treeOf(t, low, at), twigs(x, d.Left).tree()) || !same(treeOf(t, high, at), twigs(x, d.Right).tree()) {
				t.Fatal(f, at, x, i)
			}
			if id, e := field.Leader(below, at); id != d.ID || e != api.OK {
				t.Fatal(f, at, x, i, id, e)
			}
			if i == x.Root && !slices.Equal(below.Points, f.Points) {
				t.Fatal(f, at, x)
			}
			seen++
		}
	})
	enough(t, seen)
}

// P11.5: splitting the tree of a field gives the trees of its parts, and merging these the tree.
func TestSplitAndMerge(t *testing.T) {
	forFields(111, 3000, func(m *mixer, f api.Field, at api.Ratio) {
		x := treeOf(t, f, at)
		for range 6 {
			id := m.pick(append(idsOf(f), -1, 0, 3, top, most, least)...) + m.pick(0, 0, 1, -1)
			low, high := split(t, x, id)
			if !same(low, treeOf(t, between(f, least, id), at)) || !same(high, treeOf(t, without(f, idsOf(between(f, least, id))...), at)) {
				t.Fatal(f, at, x, id, low, high)
			}
			if !same(merge(t, low, high, f, at), x) {
				t.Fatal(f, at, x, id, low, high)
			}
		}
	})
}

// P11.5: the same for the parts of parts, put together in any order.
func TestSplitToPieces(t *testing.T) {
	forFields(112, 600, func(m *mixer, f api.Field, at api.Ratio) {
		x := treeOf(t, f, at)
		pieces := []api.Tree{x}
		for _, id := range m.some(idsOf(f), m.pick(3, 5, 10)) {
			low, high := split(t, pieces[len(pieces)-1], id)
			pieces = append(pieces[:len(pieces)-1], low, high)
		}
		for len(pieces) > 1 {
			i := m.below(len(pieces) - 1)
			y := merge(t, pieces[i], pieces[i+1], f, at)
			if !right(t, y, only(f, under(y, y.Root)...), at) {
				t.Fatal(f, at, pieces[i], pieces[i+1], y)
			}
			pieces = slices.Replace(pieces, i, i+2, y)
		}
		if !same(pieces[0], x) {
			t.Fatal(f, at, x, pieces[0])
		}
	})
}

// P11.4 and P11.5: parts of any tree are valid and in order, and each node is above those of its part above which it was; merged again they are valid, in order, and have all IDs, and each node is above those of its part above which it was.
func TestAboveStaysAbove(t *testing.T) {
	seen := 0
	forFields(113, 2000, func(m *mixer, f api.Field, at api.Ratio) {
		x := m.tree(idsOf(f))
		low, high := split(t, x, m.pick(append(idsOf(f), -1, 0, top)...))
		y := merge(t, low, high, f, at)
		for _, part := range []api.Tree{low, high, y} {
			if e := cartes.Check(part); e != api.OK || !inOrder(part) {
				t.Fatal(f, at, x, part)
			}
		}
		wantIDs(t, y, idsOf(f), api.OK)
		was, is := belows(x), belows(y)
		for _, part := range []api.Tree{low, high} {
			now := belows(part)
			for _, c := range part.Nodes {
				for _, d := range part.Nodes {
					above := slices.Contains(now[c.ID], d.ID)
					if above != slices.Contains(was[c.ID], d.ID) || above != slices.Contains(is[c.ID], d.ID) {
						t.Fatal(f, at, x, part, y, c, d)
					}
					seen++
				}
			}
		}
	})
	enough(t, seen)
}

// P11.5: a node is below just those nodes whose points are ahead of it and of all between them; so its depth is at most its rank.
func TestDepthAndRank(t *testing.T) {
	forFields(114, 1500, func(m *mixer, f api.Field, at api.Ratio) {
		x := treeOf(t, f, at)
		for i, p := range f.Points {
			want := 0
			for k := range f.Points {
				id, e := field.Leader(points(f.Points[min(i, k):max(i, k)+1]...), at)
				if e != api.OK {
					t.Fatal(f, at, e)
				}
				if k != i && id == f.Points[k].ID {
					want++
				}
			}
			wantDepth(t, x, p.ID, want, api.OK)
			if rank, e := field.Rank(f, p.ID, at); e != api.OK || rank < want {
				t.Fatal(f, at, x, p, rank, want, e)
			}
		}
	})
}

// P11.5: the tree does not depend on other points, and can be put together of points that come in the order of their IDs, from either end.
func TestOneByOne(t *testing.T) {
	forFields(115, 1000, func(m *mixer, f api.Field, at api.Ratio) {
		want := treeOf(t, f, at)
		up, down := bare(), bare()
		for i, p := range f.Points {
			up = merge(t, up, of(0, leaf(p.ID)), f, at)
			if !same(up, treeOf(t, points(f.Points[:i+1]...), at)) {
				t.Fatal(f, at, i, up)
			}
		}
		for i, p := range slices.Backward(f.Points) {
			down = merge(t, of(0, leaf(p.ID)), down, f, at)
			if !same(down, treeOf(t, points(f.Points[i:]...), at)) {
				t.Fatal(f, at, i, down)
			}
		}
		if !same(up, want) || !same(down, want) {
			t.Fatal(f, at, want, up, down)
		}
	})
}

// P11.5: the tree is the same one until points meet, and then another one just if one of them is not ahead any more of one on a side of it.
func TestUntilTheyMeet(t *testing.T) {
	changed, stayed := 0, 0
	forFields(116, 4000, func(m *mixer, f api.Field, at api.Ratio) {
		next, e := meet.Next(f, at)
		if e == api.ErrNone {
			return
		}
		if e != api.OK {
			t.Fatal(f, at, e)
		}
		sum, e := ratio.Add(at, next.At)
		if e != api.OK {
			return
		}
		middle, e := ratio.Mul(sum, frac(1, 2))
		if e != api.OK {
			return
		}
		x := treeOf(t, f, at)
		if !same(x, treeOf(t, f, middle)) || !right(t, x, f, middle) {
			t.Fatal(f, at, x, next)
		}
		if isAheadBelow(t, x, f, next.At) != right(t, x, f, next.At) {
			t.Fatal(f, at, x, next)
		}
		if right(t, x, f, next.At) {
			stayed++
		} else {
			changed++
		}
	})
	if changed < 100 || stayed < 100 {
		t.Error(changed, stayed)
	}
}

// P11.2: Same is true of a tree and itself, in both directions, and goes on from one to the next one.
func TestSameGoesOn(t *testing.T) {
	m := mixer(117)
	seen := 0
	for range 6000 {
		list := m.some(upTo(5), 9)
		x, y, z := m.scattered(m.tree(list)), m.scattered(m.tree(list)), m.scattered(m.tree(list))
		var is [3]bool
		for i, pair := range [][2]api.Tree{{x, y}, {y, z}, {x, z}} {
			is[i], _ = cartes.Same(pair[0], pair[1])
			wantSame(t, pair[1], pair[0], is[i], api.OK)
		}
		if is[0] && is[1] && !is[2] {
			t.Fatal(x, y, z)
		}
		if is[0] {
			seen++
			wantIDs(t, x, list, api.OK)
			for _, id := range list {
				d, e := cartes.Depth(x, id)
				wantDepth(t, y, id, d, e)
			}
		}
	}
	if seen < 300 {
		t.Error(seen)
	}
}
