package cartes_test

import (
	"testing"

	"peloton/api"
	"peloton/cartes"
)

func wantRight(t *testing.T, x api.Tree, f api.Field, at api.Ratio, want bool, e api.Errno) {
	t.Helper()
	if ok, g := cartes.Right(x, f, at); ok != want || g != e {
		t.Fatal("right", x, f, at, ok, g, want, e)
	}
}

// P11.3: Right of the tree of a field at this time, at other ones up to the next meeting, and beyond it, in any order of the nodes.
func TestRight(t *testing.T) {
	for _, x := range []struct {
		x    api.Tree
		at   api.Ratio
		want bool
	}{
		{early(), whole(0), true}, {early(), whole(1), true}, {early(), whole(-9), true}, {early(), whole(-most), true}, {early(), frac(2*fine-1, fine), true}, {early(), whole(2), false}, {early(), frac(2*fine+1, fine), false}, {early(), whole(most), false},
		{late(), whole(2), true}, {late(), whole(3), true}, {late(), frac(6*fine-1, fine), true}, {late(), frac(2*fine-1, fine), false}, {late(), whole(6), false}, {late(), whole(-1), false},
		{last(), whole(6), true}, {last(), whole(most), true}, {last(), frac(6*fine+1, fine), true}, {last(), frac(6*fine-1, fine), false}, {last(), whole(0), false},
		// The other two trees of these IDs are never right: 5 is never ahead of both others.
		{of(2, nd(1, -1, 1), leaf(2), nd(5, 0, -1)), whole(0), false}, {of(2, leaf(1), nd(2, 0, -1), nd(5, 1, -1)), whole(0), false}, {of(2, nd(1, -1, 1), leaf(2), nd(5, 0, -1)), whole(9), false}, {of(2, leaf(1), nd(2, 0, -1), nd(5, 1, -1)), whole(3), false},
	} {
		m := mixer(14)
		wantRight(t, x.x, moving(), x.at, x.want, api.OK)
		wantRight(t, mirror(x.x), moving(), x.at, x.want, api.OK)
		for range 6 {
			wantRight(t, m.scattered(x.x), moving(), x.at, x.want, api.OK)
		}
	}
}

// P11.3: Right of a tree that lacks a point of the field, has an ID that it has not, or both, wherever it is.
func TestRightOtherIDs(t *testing.T) {
	for _, at := range []api.Ratio{whole(0), whole(1), whole(2), whole(9)} {
		for _, f := range []api.Field{moving(), crowd(9), level(64), standing(20), ends(), together(5, 3)} {
			x := grown(f.Points, at).tree()
			wantRight(t, x, f, at, true, api.OK)
			for _, p := range f.Points {
				less := without(f, p.ID)
				part := grown(less.Points, at).tree()
				wantRight(t, part, less, at, true, api.OK)
				wantRight(t, part, f, at, false, api.OK)
				wantRight(t, mirror(part), f, at, false, api.OK)
				wantRight(t, x, less, at, false, api.OK)
				wantRight(t, mirror(x), less, at, false, api.OK)
			}
			wantRight(t, bare(), f, at, false, api.OK)
			wantRight(t, x, api.Field{}, at, false, api.OK)
		}
	}
	// As many IDs, one of them another one, and all sides as they should be.
	for i := range 3 {
		for _, id := range ids(0, 3, 4, 6, top) {
			x := with(early(), func(x *api.Tree) { x.Nodes[i].ID = id })
			if isValid(x) {
				wantRight(t, x, moving(), whole(0), false, api.OK)
			}
		}
	}
	wantRight(t, of(0, leaf(7)), points(pt(8, 0, 0)), whole(0), false, api.OK)
	wantRight(t, of(0, leaf(7)), points(pt(7, 0, 0)), whole(0), true, api.OK)
}

// P11.3: a tree and a field without any are right at each time.
func TestRightBare(t *testing.T) {
	for _, at := range times() {
		wantRight(t, bare(), api.Field{}, at, true, api.OK)
		wantRight(t, of(-1, []api.Node{}...), api.Field{Points: []api.Point{}}, at, true, api.OK)
		wantRight(t, bare(), moving(), at, false, api.OK)
		wantRight(t, bare(), points(pt(0, 0, 0)), at, false, api.OK)
		wantRight(t, of(0, leaf(0)), points(), at, false, api.OK)
		wantRight(t, of(0, leaf(0)), points(pt(0, 3, 4)), at, true, api.OK)
	}
}

// P11.3: of all trees of a field's IDs just one is right.
func TestRightOne(t *testing.T) {
	m := mixer(15)
	for i := range 400 {
		f := m.field(i % 7)
		at := m.time(f)
		n, right := 0, 0
		shapes(idsOf(f), func(w *twig) {
			n++
			x := m.scattered(w.tree())
			ok, e := cartes.Right(x, f, at)
			if e != api.OK || ok != isTreeOf(w.tree(), f, at) {
				t.Fatal(x, f, at, ok, e)
			}
			if ok {
				right++
			}
		})
		if right != 1 || n != []int{1, 1, 2, 5, 14, 42, 132}[len(f.Points)] {
			t.Fatal(f, at, n, right)
		}
	}
}

// shapes are all trees of some IDs that increase.
func shapes(list []int, do func(w *twig)) {
	if len(list) == 0 {
		do(nil)
		return
	}
	for i, id := range list {
		shapes(list[:i], func(l *twig) {
			shapes(list[i+1:], func(r *twig) { do(&twig{id, l, r}) })
		})
	}
}

// P11.3: each error of Right, and which one comes first.
func TestRightErrors(t *testing.T) {
	all := append(badTimes(), whole(1))
	bad := allBadFields()
	for i, x := range allBadTrees() {
		e := treeError(x)
		wantRight(t, x, bad[i%len(bad)], all[i%len(all)], false, e)
		wantRight(t, x, moving(), all[i%len(all)], false, e)
		wantRight(t, x, level(64), whole(1), false, e)
	}
	for e, list := range badFields() {
		for _, f := range list {
			for _, at := range all {
				wantRight(t, early(), f, at, false, e)
				wantRight(t, mirror(falling(64, 0)), f, at, false, e)
				wantRight(t, bare(), f, at, false, e)
			}
		}
	}
	for _, f := range fields() {
		for _, at := range badTimes() {
			wantRight(t, early(), f, at, false, api.ErrBad)
			wantRight(t, bare(), f, at, false, api.ErrBad)
		}
	}
}

// P11.3: Right, against the definition.
func TestRightByDefinition(t *testing.T) {
	m := mixer(106)
	yes, no := 0, 0
	for i := range 12000 {
		f := m.field(m.below(3 + i%6))
		if i%200 == 0 {
			f = m.field(64)
		}
		at := m.time(f)
		own := f
		if m.below(5) == 0 {
			own = only(f, m.some(idsOf(f), 8)...)
		}
		x := m.scattered(grown(own.Points, at).tree())
		switch m.below(4) {
		case 0:
			at = m.time(f)
		case 1:
			x = m.scattered(m.tree(idsOf(own)))
		}
		want, e := whetherRight(x, f, at)
		wantRight(t, x, f, at, want, e)
		if want {
			yes++
		} else {
			no++
		}
	}
	enough(t, yes)
	enough(t, no)
}
