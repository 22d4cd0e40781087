package cartes_test

import (
	"testing"

	"peloton/api"
	"peloton/cartes"
)

func wantSplit(t *testing.T, x api.Tree, id int, low, high api.Tree, e api.Errno) {
	t.Helper()
	if l, h, g := cartes.Split(x, id); !same(l, low) || !same(h, high) || g != e {
		t.Fatal("split", x, id, l, h, g, low, high, e)
	}
}

// P11.4: Split at IDs that are there, and at ones that are not.
func TestSplit(t *testing.T) {
	two, five := of(0, leaf(2)), of(0, leaf(5))
	for _, x := range []struct {
		x         api.Tree
		id        int
		low, high api.Tree
	}{
		{early(), 1, bare(), early()}, {early(), 2, of(0, leaf(1)), of(0, nd(2, -1, 1), leaf(5))}, {early(), 3, of(1, leaf(1), nd(2, 0, -1)), five}, {early(), 5, of(1, leaf(1), nd(2, 0, -1)), five}, {early(), 6, early(), bare()},
		{late(), 1, bare(), late()}, {late(), 2, of(0, leaf(1)), of(0, nd(2, -1, 1), leaf(5))}, {late(), 3, of(0, nd(1, -1, 1), leaf(2)), five}, {late(), 5, of(0, nd(1, -1, 1), leaf(2)), five}, {late(), 6, late(), bare()},
		{last(), 1, bare(), last()}, {last(), 2, of(0, leaf(1)), of(1, leaf(2), nd(5, 0, -1))}, {last(), 4, of(0, nd(1, -1, 1), leaf(2)), five}, {last(), 5, of(0, nd(1, -1, 1), leaf(2)), five}, {last(), 6, last(), bare()},
		{two, 2, bare(), two}, {two, 3, two, bare()}, {two, 1, bare(), two},
		// The nodes on the way to 5 are 2, 8, 4 and 6: those on one side go on in the same order, with all that is beside the way.
		{of(1, leaf(1), nd(2, 0, 6), leaf(3), nd(4, 2, 5), leaf(5), nd(6, 4, -1), nd(8, 3, 7), leaf(9)), 5, of(1, leaf(1), nd(2, 0, 3), leaf(3), nd(4, 2, -1)), of(2, leaf(5), nd(6, 0, -1), nd(8, 1, 3), leaf(9))},
		{of(1, leaf(1), nd(2, 0, 6), leaf(3), nd(4, 2, 5), leaf(5), nd(6, 4, -1), nd(8, 3, 7), leaf(9)), 7, of(1, leaf(1), nd(2, 0, 3), leaf(3), nd(4, 2, 5), leaf(5), nd(6, 4, -1)), of(0, nd(8, -1, 1), leaf(9))},
	} {
		wantSplit(t, x.x, x.id, x.low, x.high, api.OK)
	}
}

// P11.4: Split below the least ID and above the greatest one, whatever number it is, and of a tree without nodes.
func TestSplitBeyond(t *testing.T) {
	for _, x := range goodTrees() {
		if !inOrder(x) {
			continue
		}
		low, high := least, most
		if n := len(x.Nodes); n > 0 {
			low, high = x.Nodes[0].ID, x.Nodes[n-1].ID+1
		}
		for _, id := range ids(low, low/2-1, -1, 0, least, least+1) {
			if id <= low {
				wantSplit(t, x, id, bare(), x, api.OK)
			}
		}
		for _, id := range ids(high, top, top+1, 1<<32, most, most-1) {
			if id >= high {
				wantSplit(t, x, id, x, bare(), api.OK)
			}
		}
	}
	for _, id := range ids(0, -1, 1, 64, top, top+1, most, least) {
		wantSplit(t, bare(), id, bare(), bare(), api.OK)
		wantSplit(t, of(-1, []api.Node{}...), id, bare(), bare(), api.OK)
	}
}

// P11.4: Split of 64 nodes in one line, at each ID.
func TestSplitLines(t *testing.T) {
	for id := range 65 {
		wantSplit(t, falling(64, 0), id, falling(id, 0), falling(64-id, id), api.OK)
		wantSplit(t, rising(64, 0), id, rising(id, 0), rising(64-id, id), api.OK)
		// Up to the middle the lesser IDs come one below the other, and from there on the greater ones.
		low, high, _ := halves(zigzag(64, 0), id)
		if id <= 32 {
			low = falling(id, 0)
		}
		if id >= 32 {
			high = rising(64-id, id)
		}
		wantSplit(t, zigzag(64, 0), id, low, high, api.OK)
	}
}

// P11.4: ErrOrder of trees that are valid, but not in order, at any ID.
func TestSplitOrder(t *testing.T) {
	for _, x := range goodTrees() {
		if inOrder(x) {
			continue
		}
		for _, id := range ids(-1, 0, 1, 2, 3, 5, 6, 64, top, most, least) {
			wantSplit(t, x, id, api.Tree{}, api.Tree{}, api.ErrOrder)
		}
	}
	// Two nodes alone do not stand in order: the first ones, the last ones, or two in between.
	for _, i := range ids(0, 1, 31, 62) {
		order := upTo(64)
		order[i], order[i+1] = i+1, i
		for _, x := range []api.Tree{falling(64, 0), rising(64, 0), zigzag(64, 0)} {
			wantSplit(t, placed(x, order), 32, api.Tree{}, api.Tree{}, api.ErrOrder)
		}
	}
}

// P11.4: Split of trees that are not valid is their error, whether they are in order or not.
func TestSplitErrors(t *testing.T) {
	for i, x := range allBadTrees() {
		wantSplit(t, x, i%70-2, api.Tree{}, api.Tree{}, treeError(x))
	}
	wantSplit(t, mirror(falling(65, 0)), 3, api.Tree{}, api.Tree{}, api.ErrMany)
}

// P11.4: Split of all small trees, at each ID.
func TestSplitSmall(t *testing.T) {
	for n := range 8 {
		shapes(upTo(n), func(w *twig) {
			x := w.tree()
			for id := -1; id <= n; id++ {
				low, high, e := halves(x, id)
				wantSplit(t, x, id, low, high, e)
			}
		})
	}
}

// P11.4: Split, against the definition.
func TestSplitByDefinition(t *testing.T) {
	m := mixer(104)
	there, none := 0, 0
	for i := range 6000 {
		f := m.field(m.below(3 + i%12))
		if i%100 == 0 {
			f = m.field(64)
		}
		x := m.tree(idsOf(f))
		id := m.pick(append(idsOf(f), 0, 1, 2, 500, top)...) + m.pick(0, 0, 1, -1)
		if _, ok := point(f, id); ok {
			there++
		} else {
			none++
		}
		low, high, e := halves(x, id)
		wantSplit(t, x, id, low, high, e)
	}
	enough(t, there)
	enough(t, none)
}
