package cartes_test

import (
	"testing"

	"peloton/api"
	"peloton/cartes"
)

func wantOf(t *testing.T, f api.Field, at api.Ratio, want api.Tree, e api.Errno) {
	t.Helper()
	if x, g := cartes.Of(f, at); !same(x, want) || g != e {
		t.Fatal("of", f, at, x, g, want, e)
	}
}

// The chapter's examples.
func TestExamples(t *testing.T) {
	wantOf(t, moving(), whole(0), of(1, leaf(1), nd(2, 0, 2), leaf(5)), api.OK)
	wantOf(t, moving(), whole(2), of(0, nd(1, -1, 1), nd(2, -1, 2), leaf(5)), api.OK)
	wantDepth(t, late(), 5, 2, api.OK)
	wantSplit(t, late(), 2, of(0, leaf(1)), of(0, nd(2, -1, 1), leaf(5)), api.OK)
}

// P11.1: Of just before, at and just after each meeting of the examples, and far from them.
func TestOf(t *testing.T) {
	for _, x := range []struct {
		at   api.Ratio
		want api.Tree
	}{
		{whole(-most), early()}, {whole(-1), early()}, {frac(-1, most), early()}, {whole(0), early()}, {frac(1, most), early()}, {whole(1), early()}, {frac(2*fine-1, fine), early()},
		{whole(2), late()}, {frac(2*fine+1, fine), late()}, {whole(3), late()}, {frac(6*fine-1, fine), late()},
		{whole(6), last()}, {frac(6*fine+1, fine), last()}, {whole(7), last()}, {frac(most, most-1), early()}, {whole(most), last()},
	} {
		wantOf(t, moving(), x.at, x.want, api.OK)
	}
	// Without 2 the points 1 and 5 show who is ahead before 0.
	two := without(moving(), 2)
	wantOf(t, two, whole(-1), of(1, leaf(1), nd(5, 0, -1)), api.OK)
	wantOf(t, two, frac(-1, most), of(1, leaf(1), nd(5, 0, -1)), api.OK)
	wantOf(t, two, whole(0), of(0, nd(1, -1, 1), leaf(5)), api.OK)
	wantOf(t, two, frac(1, most), of(0, nd(1, -1, 1), leaf(5)), api.OK)
}

// P11.1: Of no points, and of one point.
func TestOfFew(t *testing.T) {
	for _, at := range times() {
		wantOf(t, api.Field{}, at, of(-1), api.OK)
		wantOf(t, api.Field{Points: []api.Point{}}, at, of(-1), api.OK)
		for _, f := range fields() {
			for _, p := range f.Points {
				wantOf(t, points(p), at, of(0, leaf(p.ID)), api.OK)
			}
		}
	}
}

// P11.1: Of 64 points, in lines and in other trees.
func TestOfMost(t *testing.T) {
	wantOf(t, standing(64), whole(7), rising(64, 0), api.OK)
	wantOf(t, level(64), frac(fine-1, fine), rising(64, 0), api.OK)
	wantOf(t, level(64), whole(1), falling(64, 0), api.OK)
	wantOf(t, level(64), frac(fine+1, fine), falling(64, 0), api.OK)
	// The points at both ends lead, one after the other, and those in the middle come last.
	wantOf(t, many(64, top-63, func(i int64) (a, b int64) { return max(126-4*i, 4*i-127), 0 }), whole(3), zigzag(64, top-63), api.OK)
	// A tree in which each node has as many nodes on its left side as on its right one, and 63 of them.
	halved := many(63, 1, func(i int64) (a, b int64) { return (i + 1) & -(i + 1), 5 })
	x := treeOf(t, halved, frac(-7, 3))
	if d, e := cartes.Depth(x, 32); d != 0 || e != api.OK {
		t.Error(x, d, e)
	}
	for i := 1; i < 64; i++ {
		want := 5
		for n := i; n%2 == 0; n /= 2 {
			want--
		}
		wantDepth(t, x, i, want, api.OK)
	}
}

// P11.1: Of points that are at one place at the time: the faster one comes first, and of those with the same speed the one with the lesser ID.
func TestOfOnePlace(t *testing.T) {
	wantOf(t, together(64, 0), whole(3), falling(64, 0), api.OK)
	wantOf(t, together(64, top-63), whole(-most), falling(64, top-63), api.OK)
	// All are at 4 at the time 2: 4 has the speed 9, 1 and 3 have the speed 3, and 7 and 9 stand.
	f := points(pt(1, -2, 3), pt(3, -2, 3), pt(4, -14, 9), pt(7, 4, 0), pt(9, 4, 0))
	wantOf(t, f, whole(2), of(2, nd(1, -1, 1), leaf(3), nd(4, 0, 3), nd(7, -1, 4), leaf(9)), api.OK)
	// Just after it is the same one; just before 7 comes first.
	wantOf(t, f, frac(2*fine+1, fine), of(2, nd(1, -1, 1), leaf(3), nd(4, 0, 3), nd(7, -1, 4), leaf(9)), api.OK)
	wantOf(t, f, frac(2*fine-1, fine), of(3, nd(1, -1, 1), nd(3, -1, 2), leaf(4), nd(7, 0, 4), leaf(9)), api.OK)
}

// P11.1: Of points whose places are out of range.
func TestOfFar(t *testing.T) {
	wantOf(t, ends(), whole(most), of(0, nd(0, -1, 1), nd(1, -1, 5), leaf(2), nd(65533, 2, -1), nd(65534, 3, -1), nd(65535, 4, -1)), api.OK)
	wantOf(t, ends(), whole(-most), of(3, nd(0, -1, 1), leaf(1), nd(2, 0, -1), nd(65533, 2, 5), leaf(65534), nd(65535, 4, -1)), api.OK)
}

// P11.1: each error of Of, and which one comes first.
func TestOfErrors(t *testing.T) {
	for e, list := range badFields() {
		for _, f := range list {
			for _, at := range append(badTimes(), times()...) {
				wantOf(t, f, at, api.Tree{}, e)
			}
		}
	}
	for _, f := range fields() {
		for _, at := range badTimes() {
			wantOf(t, f, at, api.Tree{}, api.ErrBad)
		}
	}
}

// P11.1: Of, against the definition.
func TestOfByDefinition(t *testing.T) {
	m := mixer(101)
	for i := range 12000 {
		f := m.field(m.below(3 + i%9))
		if i%200 == 0 {
			f = m.field(64)
		}
		at := m.time(f)
		want, e := ofField(f, at)
		wantOf(t, f, at, want, e)
		if !isTreeOf(want, f, at) {
			t.Fatal(f, at, want)
		}
	}
	for _, f := range fields() {
		for _, at := range times() {
			want, e := ofField(f, at)
			wantOf(t, f, at, want, e)
		}
	}
}
