package cartes_test

import (
	"slices"
	"testing"

	"peloton/api"
	"peloton/cartes"
)

func wantIDs(t *testing.T, x api.Tree, want []int, e api.Errno) {
	t.Helper()
	if list, g := cartes.IDs(x); !slices.Equal(list, want) || g != e {
		t.Fatal("IDs", x, list, g, want, e)
	}
}

func wantDepth(t *testing.T, x api.Tree, id, want int, e api.Errno) {
	t.Helper()
	if d, g := cartes.Depth(x, id); d != want || g != e {
		t.Fatal("depth", x, id, d, g, want, e)
	}
}

func wantSame(t *testing.T, x, y api.Tree, want bool, e api.Errno) {
	t.Helper()
	if ok, g := cartes.Same(x, y); ok != want || g != e {
		t.Fatal("same", x, y, ok, g, want, e)
	}
}

// P11.2: IDs of a tree without nodes, of one node, of a few, of 64 in one line, and of trees that are not in order.
func TestIDs(t *testing.T) {
	for _, x := range []struct {
		x    api.Tree
		want []int
	}{
		{bare(), nil}, {of(-1, []api.Node{}...), nil}, {of(0, leaf(0)), ids(0)}, {of(0, leaf(top)), ids(top)}, {early(), ids(1, 2, 5)}, {late(), ids(1, 2, 5)}, {last(), ids(1, 2, 5)}, {mirror(last()), ids(1, 2, 5)},
		{of(2, leaf(5), leaf(1), nd(2, 1, 0)), ids(1, 2, 5)}, {of(1, leaf(top), nd(0, -1, 0)), ids(0, top)}, {of(0, nd(7, 1, -1), nd(3, -1, 2), leaf(5)), ids(3, 5, 7)},
		{falling(64, 0), upTo(64)}, {rising(64, 0), upTo(64)}, {zigzag(64, 0), upTo(64)}, {mirror(falling(64, 0)), upTo(64)}, {mirror(zigzag(64, 0)), upTo(64)},
	} {
		wantIDs(t, x.x, x.want, api.OK)
	}
}

// P11.2: Depth of each node of some trees, and of IDs that are not there.
func TestDepth(t *testing.T) {
	for _, x := range []struct {
		x     api.Tree
		id, d int
	}{
		{early(), 2, 0}, {early(), 1, 1}, {early(), 5, 1}, {late(), 1, 0}, {late(), 2, 1}, {late(), 5, 2}, {last(), 1, 0}, {last(), 5, 1}, {last(), 2, 2}, {mirror(last()), 2, 2}, {mirror(last()), 1, 0},
		{of(0, leaf(0)), 0, 0}, {of(0, leaf(top)), top, 0}, {of(0, leaf(9)), 9, 0},
	} {
		wantDepth(t, x.x, x.id, x.d, api.OK)
	}
	for i := range 64 {
		wantDepth(t, falling(64, 0), i, i, api.OK)
		wantDepth(t, mirror(falling(64, 0)), i, i, api.OK)
		wantDepth(t, rising(64, 0), i, 63-i, api.OK)
		wantDepth(t, zigzag(64, 0), i, min(2*i, 2*(63-i)+1), api.OK)
	}
}

// P11.2: Depth of an ID that is not there, below, between and above those of a tree, or no ID at all.
func TestDepthNone(t *testing.T) {
	for _, id := range ids(-1, -2, 0, 3, 4, 6, 7, 64, top-1, top, top+1, 1<<32+1, most, least) {
		for _, x := range []api.Tree{bare(), early(), late(), last(), mirror(last()), of(0, leaf(1)), falling(3, 8), rising(20, 100), zigzag(20, 100)} {
			wantDepth(t, x, id, 0, api.ErrNone)
		}
	}
	wantDepth(t, falling(64, 0), 64, 0, api.ErrNone)
	wantDepth(t, falling(64, 1), 0, 0, api.ErrNone)
	wantDepth(t, rising(64, top-63), top-64, 0, api.ErrNone)
	wantDepth(t, of(0, nd(0, -1, 1), leaf(top)), 1, 0, api.ErrNone)
}

// P11.2: Same of trees that differ only in the order of Nodes, and of trees without nodes, with one node and with 64 in one line.
func TestSame(t *testing.T) {
	m := mixer(12)
	for _, x := range goodTrees() {
		wantSame(t, x, x, true, api.OK)
		wantSame(t, x, clone(x), true, api.OK)
		for range 5 {
			wantSame(t, m.scattered(x), x, true, api.OK)
			wantSame(t, x, m.scattered(x), true, api.OK)
			wantSame(t, m.scattered(x), mirror(x), true, api.OK)
		}
	}
	wantSame(t, bare(), of(-1, []api.Node{}...), true, api.OK)
	wantSame(t, of(0, leaf(1)), of(0, leaf(1)), true, api.OK)
	wantSame(t, of(0, leaf(5), nd(1, -1, 0)), of(1, nd(1, -1, 0), leaf(5)), false, api.ErrBad)
	wantSame(t, of(1, leaf(5), nd(1, -1, 0)), of(0, nd(1, -1, 1), leaf(5)), true, api.OK)
	wantSame(t, early(), of(0, nd(2, 2, 1), leaf(5), leaf(1)), true, api.OK)
	wantSame(t, falling(64, 0), mirror(falling(64, 0)), true, api.OK)
}

// P11.2: Same of trees with the same IDs and other sides, and of trees with other IDs, or more of them.
func TestSameNot(t *testing.T) {
	list := []api.Tree{
		bare(), of(0, leaf(0)), of(0, leaf(1)), of(0, leaf(top)), early(), late(), last(), of(2, nd(1, -1, 1), leaf(2), nd(5, 0, -1)), of(2, leaf(1), nd(2, 0, -1), nd(5, 1, -1)), of(1, leaf(1), nd(2, 0, 2), leaf(6)), of(1, leaf(0), nd(2, 0, 2), leaf(5)), of(1, leaf(1), nd(3, 0, 2), leaf(5)),
		of(1, leaf(1), nd(2, 0, -1)), of(0, nd(1, -1, 1), leaf(2)), of(0, nd(2, -1, 1), leaf(5)), of(1, leaf(2), nd(5, 0, -1)), of(0, nd(1, -1, 1), leaf(5)), of(1, leaf(1), nd(5, 0, -1)),
		falling(64, 0), rising(64, 0), zigzag(64, 0), falling(63, 0), falling(64, 1), falling(63, 1), with(falling(64, 0), func(x *api.Tree) { x.Nodes[63].ID = 64 }), with(falling(64, 0), func(x *api.Tree) { x.Nodes[61].Right, x.Nodes[62], x.Nodes[63] = 63, leaf(62), nd(63, 62, -1) }),
	}
	m := mixer(13)
	for i, x := range list {
		for k, y := range list {
			wantSame(t, x, y, i == k, api.OK)
			wantSame(t, m.scattered(x), y, i == k, api.OK)
			wantSame(t, x, m.scattered(y), i == k, api.OK)
		}
	}
	// Nodes that stand in the same places, but under another root or with other sides.
	wantSame(t, of(0, nd(1, -1, 1), leaf(2)), of(1, leaf(1), nd(2, 0, -1)), false, api.OK)
	wantSame(t, of(0, nd(1, -1, 2), leaf(2), nd(5, 1, -1)), of(0, nd(1, -1, 1), nd(2, -1, 2), leaf(5)), false, api.OK)
}

// P11.2: all that is told of trees that are not valid is their error: for Same that of the first one, and then that of the second one.
func TestTellErrors(t *testing.T) {
	good := goodTrees()
	bad := fewBadTrees()
	for i, x := range allBadTrees() {
		e := treeError(x)
		wantIDs(t, x, nil, e)
		wantDepth(t, x, 1, 0, e)
		wantDepth(t, x, i%70-2, 0, e)
		wantSame(t, x, x, false, e)
		wantSame(t, x, good[i%len(good)], false, e)
		wantSame(t, good[i%len(good)], x, false, e)
	}
	for i, x := range bad {
		for k := range 20 {
			wantSame(t, x, bad[(i*7+k)%len(bad)], false, treeError(x))
		}
	}
	wantSame(t, falling(65, 0), early(), false, api.ErrMany)
	wantSame(t, falling(65, 0), of(0), false, api.ErrMany)
	wantSame(t, of(0), falling(65, 0), false, api.ErrBad)
	wantSame(t, early(), falling(65, 0), false, api.ErrMany)
	wantSame(t, early(), of(0), false, api.ErrBad)
	wantSame(t, api.Tree{}, api.Tree{}, false, api.ErrBad)
}

// P11.2: IDs, Depth and Same, against the definitions.
func TestTellByDefinition(t *testing.T) {
	m := mixer(103)
	there, none, alike, unlike := 0, 0, 0, 0
	for i := range 12000 {
		f := m.field(m.below(3 + i%9))
		if i%200 == 0 {
			f = m.field(64)
		}
		x, y := m.scattered(m.tree(idsOf(f))), m.scattered(m.tree(m.some(idsOf(f), m.pick(10, 10, 9))))
		list, e := idsFrom(x)
		wantIDs(t, x, list, e)
		id := m.pick(append(list, 0, 1, 2, 500, top)...)
		d, e := depthOf(x, id)
		wantDepth(t, x, id, d, e)
		if e == api.OK {
			there++
		} else {
			none++
		}
		ok, e := whetherSame(x, y)
		wantSame(t, x, y, ok, e)
		if ok {
			alike++
		} else {
			unlike++
		}
	}
	for _, n := range ids(there, none, alike, unlike) {
		enough(t, n)
	}
}
