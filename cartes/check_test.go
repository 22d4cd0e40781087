package cartes_test

import (
	"slices"
	"testing"

	"peloton/api"
	"peloton/cartes"
)

func wantCheck(t *testing.T, x api.Tree, want api.Errno) {
	t.Helper()
	if e := cartes.Check(x); e != want || treeError(x) != want {
		t.Fatal("check", x, e, treeError(x), want)
	}
}

// P11.1: Check of trees that are valid, whether they are in order or not.
func TestCheckValid(t *testing.T) {
	loose := 0
	for _, x := range goodTrees() {
		wantCheck(t, x, api.OK)
		if !inOrder(x) {
			loose++
		}
	}
	if loose < 20 {
		t.Error(loose)
	}
	for _, s := range goodStages() {
		wantCheck(t, s.x, api.OK)
		wantCheck(t, s.y, api.OK)
	}
}

// P11.1: Check of trees that are not valid, in each way.
func TestCheckBad(t *testing.T) {
	for reason, list := range badTrees() {
		if len(list) < 5 {
			t.Error(reason, "has only", len(list))
		}
		for _, x := range list {
			wantCheck(t, x, api.ErrBad)
		}
	}
}

// P11.1: too many nodes are ErrMany, whether all else is right or not.
func TestCheckMany(t *testing.T) {
	for _, x := range slices.Concat(tooMany(), tooManyAndBad()) {
		wantCheck(t, x, api.ErrMany)
	}
	for _, x := range tooMany() {
		if !isValid(x) {
			t.Error(x)
		}
	}
	for _, x := range tooManyAndBad() {
		if isValid(x) {
			t.Error(x)
		}
	}
}

// P11.1: both ends of IDs, of indexes and of nodes, and what is just beyond them.
func TestCheckEnds(t *testing.T) {
	for _, x := range []struct {
		x api.Tree
		e api.Errno
	}{
		{bare(), api.OK}, {of(0), api.ErrBad}, {of(-2), api.ErrBad}, {of(1), api.ErrBad}, {api.Tree{}, api.ErrBad},
		{of(0, leaf(0)), api.OK}, {of(0, leaf(top)), api.OK}, {of(0, leaf(-1)), api.ErrBad}, {of(0, leaf(top+1)), api.ErrBad}, {of(-1, leaf(0)), api.ErrBad}, {of(1, leaf(0)), api.ErrBad}, {of(-2, leaf(0)), api.ErrBad},
		{of(0, nd(3, 0, -1)), api.ErrBad}, {of(0, nd(3, -1, 0)), api.ErrBad}, {of(0, nd(3, 1, -1)), api.ErrBad}, {of(0, nd(3, -1, 1)), api.ErrBad}, {of(0, nd(3, -2, -1)), api.ErrBad}, {of(0, nd(3, -1, -2)), api.ErrBad}, {of(0, api.Node{ID: 3}), api.ErrBad},
		{of(0, nd(3, 1, -1), leaf(2)), api.OK}, {of(0, nd(3, -1, 1), leaf(4)), api.OK}, {of(1, leaf(2), nd(3, 0, -1)), api.OK}, {of(1, leaf(4), nd(3, -1, 0)), api.OK},
		{of(0, nd(3, 1, -1), leaf(3)), api.ErrBad}, {of(0, nd(3, 1, -1), leaf(4)), api.ErrBad}, {of(0, nd(3, -1, 1), leaf(3)), api.ErrBad}, {of(0, nd(3, -1, 1), leaf(2)), api.ErrBad}, {of(1, nd(3, 1, -1), leaf(2)), api.ErrBad}, {of(0, leaf(3), leaf(2)), api.ErrBad},
		{of(0, nd(3, 1, -1), leaf(0)), api.OK}, {of(0, nd(3, 1, -1), leaf(-1)), api.ErrBad}, {of(0, nd(3, -1, 1), leaf(top)), api.OK}, {of(0, nd(3, -1, 1), leaf(top+1)), api.ErrBad}, {of(0, nd(0, 1, -1), leaf(-1)), api.ErrBad}, {of(0, nd(top, -1, 1), leaf(top+1)), api.ErrBad},
		// Below the right side of 1 there may be 2, but neither 3, which is above it, nor one beyond.
		{of(0, nd(3, 1, -1), nd(1, -1, 2), leaf(2)), api.OK}, {of(0, nd(3, 1, -1), nd(1, -1, 2), leaf(3)), api.ErrBad}, {of(0, nd(3, 1, -1), nd(1, -1, 2), leaf(4)), api.ErrBad}, {of(0, nd(3, 1, -1), nd(1, -1, 2), leaf(1)), api.ErrBad},
		{of(0, nd(3, -1, 1), nd(5, 2, -1), leaf(4)), api.OK}, {of(0, nd(3, -1, 1), nd(5, 2, -1), leaf(3)), api.ErrBad}, {of(0, nd(3, -1, 1), nd(5, 2, -1), leaf(2)), api.ErrBad}, {of(0, nd(3, -1, 1), nd(5, 2, -1), leaf(5)), api.ErrBad},
		{falling(64, 0), api.OK}, {falling(65, 0), api.ErrMany}, {rising(64, top-63), api.OK}, {rising(64, top-62), api.ErrBad}, {rising(65, top-64), api.ErrMany}, {falling(64, -1), api.ErrBad},
	} {
		wantCheck(t, x.x, x.e)
	}
}

// small are all trees of n nodes with some IDs, whose Root and sides are from -2 up to n.
func small(n int, list []int, do func(x api.Tree)) {
	x := of(0, make([]api.Node, n)...)
	var fill func(k int)
	fill = func(k int) {
		if k == n {
			for root := -2; root <= n; root++ {
				x.Root = root
				do(x)
			}
			return
		}
		for _, id := range list {
			for left := -2; left <= n; left++ {
				for right := -2; right <= n; right++ {
					x.Nodes[k] = nd(id, left, right)
					fill(k + 1)
				}
			}
		}
	}
	fill(0)
}

// P11.1: each one of all small trees with small numbers is valid or not as the definition says.
func TestCheckSmall(t *testing.T) {
	// With n of the IDs 0, 1 and 2, in any order in Nodes, there are 1, 1, 2 or 5 trees each.
	for n, good := range []int{1, 3, 3 * 2 * 2, 6 * 5} {
		list := ids(-1, 0, 1, 2)
		if n == 3 {
			list = ids(0, 1, 2)
		}
		seen := 0
		small(n, list, func(x api.Tree) {
			want := api.ErrBad
			if isValid(x) {
				seen++
				want = api.OK
			}
			if e := cartes.Check(x); e != want {
				t.Fatal(x, e, want)
			}
		})
		if seen != good {
			t.Error(n, seen, good)
		}
	}
}

// P11.1: Check, against the definition.
func TestCheckByDefinition(t *testing.T) {
	m := mixer(102)
	good, bad := 0, 0
	for i := range 40000 {
		x := m.spoiled(1 + i%9)
		want := treeError(x)
		wantCheck(t, x, want)
		if want == api.OK {
			good++
		} else {
			bad++
		}
	}
	enough(t, good)
	enough(t, bad)
}
