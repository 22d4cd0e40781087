package cartes_test

import (
	"slices"
	"testing"

	"peloton/api"
	"peloton/cartes"
)

func wantMerge(t *testing.T, a, b api.Tree, f api.Field, at api.Ratio, want api.Tree, e api.Errno) {
	t.Helper()
	if x, g := cartes.Merge(a, b, f, at); !same(x, want) || g != e {
		t.Fatal("merge", a, b, f, at, x, g, want, e)
	}
}

func wantNoMerge(t *testing.T, a, b api.Tree, f api.Field, at api.Ratio, e api.Errno) {
	t.Helper()
	wantMerge(t, a, b, f, at, api.Tree{}, e)
}

// P11.4: Merge of the parts of the examples, just before, at and just after each meeting.
func TestMerge(t *testing.T) {
	one, two, five := of(0, leaf(1)), of(0, leaf(2)), of(0, leaf(5))
	both := []api.Tree{of(1, leaf(1), nd(2, 0, -1)), of(0, nd(1, -1, 1), leaf(2))}
	rest := []api.Tree{of(0, nd(2, -1, 1), leaf(5)), of(1, leaf(2), nd(5, 0, -1))}
	for _, x := range []struct {
		a, b api.Tree
		at   api.Ratio
		want api.Tree
	}{
		{one, two, whole(0), both[0]}, {one, two, frac(2*fine-1, fine), both[0]}, {one, two, whole(2), both[1]}, {one, two, frac(2*fine+1, fine), both[1]}, {two, five, whole(2), rest[0]}, {two, five, frac(6*fine-1, fine), rest[0]}, {two, five, whole(6), rest[1]}, {two, five, whole(most), rest[1]},
		{one, rest[0], whole(0), early()}, {one, rest[0], frac(2*fine-1, fine), early()}, {one, rest[0], whole(2), late()}, {one, rest[0], whole(5), late()}, {one, rest[1], whole(6), last()}, {one, rest[1], whole(most), last()},
		{both[0], five, whole(0), early()}, {both[0], five, whole(-most), early()}, {both[1], five, whole(2), late()}, {both[1], five, frac(6*fine-1, fine), late()}, {both[1], five, whole(6), last()}, {both[1], five, frac(6*fine+1, fine), last()},
		{bare(), early(), whole(0), early()}, {early(), bare(), whole(0), early()}, {bare(), five, whole(0), five}, {one, bare(), whole(0), one}, {bare(), bare(), whole(0), bare()},
	} {
		wantMerge(t, x.a, x.b, moving(), x.at, x.want, api.OK)
		// Other points are of no account.
		wantMerge(t, x.a, x.b, points(append(append(points(pt(0, coord, coord)).Points, moving().Points...), pt(7, coord, coord))...), x.at, x.want, api.OK)
	}
}

// P11.4: trees that are not those of the field are merged in the same way, and so is one without nodes with any tree, which stays as it is.
func TestMergeWrong(t *testing.T) {
	// At 0 the point 5 is above 2, which is ahead of it; 1 is ahead of 5, and so it comes above both.
	wantMerge(t, of(0, leaf(1)), of(1, leaf(2), nd(5, 0, -1)), moving(), whole(0), of(0, nd(1, -1, 2), leaf(2), nd(5, 1, -1)), api.OK)
	// At 0 the point 1 is above 2, which is ahead of it; 5 is behind both.
	wantMerge(t, of(0, nd(1, -1, 1), leaf(2)), of(0, leaf(5)), moving(), whole(0), of(0, nd(1, -1, 1), nd(2, -1, 2), leaf(5)), api.OK)
	// At 7 the point 2 is above 1, which is ahead of it; 5 is ahead of 2, and so it comes above both, though it is behind 1.
	wantMerge(t, of(1, leaf(1), nd(2, 0, -1)), of(0, leaf(5)), moving(), whole(7), of(2, leaf(1), nd(2, 0, -1), nd(5, 1, -1)), api.OK)
	f := level(64)
	for _, x := range []api.Tree{falling(64, 0), rising(64, 0), zigzag(64, 0), falling(10, 20), rising(7, 57)} {
		for _, at := range []api.Ratio{whole(0), whole(1), whole(most)} {
			wantMerge(t, x, bare(), f, at, x, api.OK)
			wantMerge(t, bare(), x, f, at, x, api.OK)
		}
	}
}

// P11.4: Merge of 64 nodes in all, in lines that stay one, or that go to and fro.
func TestMergeLines(t *testing.T) {
	for n := range 65 {
		wantMerge(t, falling(n, 0), falling(64-n, n), level(64), whole(1), falling(64, 0), api.OK)
		wantMerge(t, rising(n, 0), rising(64-n, n), level(64), frac(fine-1, fine), rising(64, 0), api.OK)
		wantMerge(t, falling(n, top-63), falling(64-n, top-63+n), together(64, top-63), whole(-most), falling(64, top-63), api.OK)
	}
	// The points at both ends lead, one after the other, so lines from both ends become one that goes to and fro.
	f := many(64, 0, func(i int64) (a, b int64) { return max(126-4*i, 4*i-127), 0 })
	wantMerge(t, falling(32, 0), rising(32, 32), f, whole(5), zigzag(64, 0), api.OK)
}

// P11.4: Merge of two trees without nodes, in any field.
func TestMergeBare(t *testing.T) {
	for _, f := range fields() {
		for _, at := range times() {
			wantMerge(t, bare(), bare(), f, at, bare(), api.OK)
			wantMerge(t, bare(), of(-1, []api.Node{}...), f, at, bare(), api.OK)
		}
	}
}

// P11.4: ErrOrder of a tree that is not in order, in either place, also beside one without nodes.
func TestMergeLoose(t *testing.T) {
	loose := mirror(of(1, leaf(1), nd(2, 0, -1)))
	more := []api.Tree{bare(), of(0, leaf(5)), of(0, leaf(1)), early(), mirror(early()), loose, falling(64, 0), of(0, leaf(77))}
	for _, f := range slices.Concat(fields(), allBadFields()) {
		for _, at := range append(badTimes(), whole(0)) {
			for _, x := range more {
				wantNoMerge(t, loose, x, f, at, api.ErrOrder)
				wantNoMerge(t, x, loose, f, at, api.ErrOrder)
			}
		}
	}
}

// P11.4: ErrMany of trees with more than 64 nodes together, whether the field has their IDs, and these are in order, or not; 64 are not too many.
func TestMergeMany(t *testing.T) {
	for _, x := range []struct {
		low, high int
		e         api.Errno
	}{
		{64, 0, api.OK}, {0, 64, api.OK}, {63, 1, api.OK}, {1, 63, api.OK}, {32, 32, api.OK}, {64, 1, api.ErrMany}, {1, 64, api.ErrMany}, {33, 32, api.ErrMany}, {32, 33, api.ErrMany}, {64, 64, api.ErrMany}, {63, 2, api.ErrMany},
	} {
		f := level(64)
		a, b := falling(x.low, 0), falling(x.high, x.low)
		want := api.Tree{}
		if x.e == api.OK {
			want = falling(64, 0)
		}
		wantMerge(t, a, b, f, whole(1), want, x.e)
		if x.e == api.ErrMany {
			// The field has all IDs, but they are not in order; and it has none.
			wantNoMerge(t, falling(x.low, 0), falling(x.high, 0), f, whole(1), api.ErrMany)
			wantNoMerge(t, falling(x.high, 64-x.high), falling(x.low, 0), f, whole(1), api.ErrMany)
			wantNoMerge(t, a, b, api.Field{}, whole(1), api.ErrMany)
			wantNoMerge(t, falling(x.low, 500), b, moving(), whole(1), api.ErrMany)
		}
	}
}

// P11.4: ErrNone of a field without one of the IDs, whichever it is, whether they are in order or not.
func TestMergeNone(t *testing.T) {
	for n := range 65 {
		a, b := rising(n, 0), falling(64-n, n)
		for id := range 64 {
			if (id+n)%5 == 0 {
				wantNoMerge(t, a, b, without(level(64), id), whole(1), api.ErrNone)
				wantNoMerge(t, b, a, without(level(64), id), whole(1), api.ErrNone)
			}
		}
	}
	for _, f := range []api.Field{{}, points(pt(0, 0, 0)), without(moving(), 1), without(moving(), 2), without(moving(), 5), points(pt(1, 0, 2), pt(2, 6, -1), pt(4, 0, 0), pt(6, 0, 0)), ends()} {
		for _, at := range times() {
			wantNoMerge(t, early(), bare(), f, at, api.ErrNone)
			wantNoMerge(t, bare(), late(), f, at, api.ErrNone)
			wantNoMerge(t, of(0, leaf(1)), of(0, nd(2, -1, 1), leaf(5)), f, at, api.ErrNone)
			// The same IDs in both, or those of the first one behind those of the second one.
			wantNoMerge(t, early(), early(), f, at, api.ErrNone)
			wantNoMerge(t, of(0, nd(2, -1, 1), leaf(5)), of(0, leaf(1)), f, at, api.ErrNone)
		}
	}
	wantNoMerge(t, of(0, leaf(top)), bare(), moving(), whole(1), api.ErrNone)
	wantNoMerge(t, of(0, leaf(0)), of(0, leaf(3)), moving(), whole(1), api.ErrNone)
}

// P11.4: ErrOrder where an ID of the first tree is not less than one of the second one: the same one, or a greater one, of all of them or of a few.
func TestMergeNotBehind(t *testing.T) {
	f := level(64)
	for _, x := range [][2][]int{
		{ids(1), ids(1)}, {ids(2), ids(1)}, {ids(63), ids(0)}, {ids(1, 2), ids(2, 3)}, {ids(1, 3), ids(2)}, {ids(2), ids(1, 3)}, {ids(2), ids(1)}, {ids(1, 4), ids(2, 3)}, {ids(2, 3), ids(1, 4)}, {ids(0, 2, 4), ids(1, 3, 5)}, {ids(4, 5, 6), ids(1, 2, 3)}, {ids(0, 1, 2, 3), ids(3)}, {ids(3), ids(0, 1, 2, 3)}, {ids(3), ids(3, 4, 5)}, {upTo(32), upTo(32)}, {upTo(32), slices.Concat(ids(31), upTo(64)[33:])},
	} {
		m := mixer(16)
		for range 10 {
			for _, at := range []api.Ratio{whole(0), whole(1)} {
				wantNoMerge(t, m.tree(x[0]), m.tree(x[1]), f, at, api.ErrOrder)
			}
		}
	}
	wantNoMerge(t, of(0, leaf(top)), of(0, leaf(top)), ends(), whole(1), api.ErrOrder)
	wantNoMerge(t, of(0, leaf(0)), of(0, leaf(0)), ends(), whole(1), api.ErrOrder)
	wantNoMerge(t, of(0, leaf(top)), of(0, leaf(0)), ends(), whole(1), api.ErrOrder)
	wantMerge(t, of(0, leaf(0)), of(0, leaf(top)), ends(), whole(1), of(0, nd(0, -1, 1), leaf(top)), api.OK)
}

// P11.4: the errors of the field, and then that of the time, come before all that is asked of both trees together.
func TestMergeBadFields(t *testing.T) {
	pairs := [][2]api.Tree{{bare(), bare()}, {early(), bare()}, {of(0, leaf(1)), of(0, nd(2, -1, 1), leaf(5))}, {falling(64, 0), rising(64, 64)}, {of(0, leaf(9)), of(0, leaf(77))}, {of(0, leaf(5)), of(0, leaf(1))}, {early(), early()}}
	for _, x := range pairs {
		for e, list := range badFields() {
			for _, f := range list {
				for _, at := range append(badTimes(), whole(1)) {
					wantNoMerge(t, x[0], x[1], f, at, e)
				}
			}
		}
		for _, f := range fields() {
			for _, at := range badTimes() {
				wantNoMerge(t, x[0], x[1], f, at, api.ErrBad)
			}
		}
	}
}

// P11.4: which error of Merge comes first where two of them or more meet.
func TestMergeErrors(t *testing.T) {
	trees := slices.Concat([]api.Tree{bare(), early(), mirror(late()), of(0, leaf(1)), of(0, leaf(5)), falling(64, 0), rising(40, 30), of(0, leaf(9)), tooMany()[0], tooMany()[3], tooManyAndBad()[0], of(0), of(1, leaf(3)), falling(64, top)}, few(fewBadTrees()))
	all := []api.Field{{}, moving(), level(64), badFields()[api.ErrMany][0], badFields()[api.ErrBad][0], badFields()[api.ErrOrder][0]}
	seen := map[api.Errno]int{}
	for _, a := range trees {
		for _, b := range trees {
			for _, f := range all {
				for _, at := range []api.Ratio{whole(1), {}, frac(2, 2)} {
					want, e := oneOf(a, b, f, at)
					wantMerge(t, a, b, f, at, want, e)
					seen[e]++
				}
			}
		}
	}
	for _, e := range []api.Errno{api.OK, api.ErrMany, api.ErrNone, api.ErrBad, api.ErrOrder} {
		if seen[e] < 10 {
			t.Error(seen)
		}
	}
}

// P11.4: trees that are not valid are the first error, that of the first one before that of the second one, whatever else there is.
func TestMergeBadTrees(t *testing.T) {
	bad, fields := fewBadTrees(), allBadFields()
	for i, x := range allBadTrees() {
		e := treeError(x)
		wantNoMerge(t, x, bare(), moving(), whole(1), e)
		wantNoMerge(t, x, mirror(early()), fields[i%len(fields)], whole(1), e)
		wantNoMerge(t, mirror(early()), x, fields[i%len(fields)], whole(1), e)
		wantNoMerge(t, x, early(), moving(), frac(0, 0), e)
		wantNoMerge(t, early(), x, moving(), frac(0, 0), e)
		wantNoMerge(t, x, bad[i%len(bad)], level(64), whole(1), e)
		wantNoMerge(t, bad[i%len(bad)], x, level(64), whole(1), treeError(bad[i%len(bad)]))
	}
}

// P11.4: Merge of all small trees, at times around the meetings of their points.
func TestMergeSmall(t *testing.T) {
	m := mixer(17)
	for i := range 250 {
		f := m.field(1 + i%5)
		at := m.time(f)
		all := idsOf(f)
		for cut := range len(all) + 1 {
			shapes(all[:cut], func(l *twig) {
				shapes(all[cut:], func(r *twig) {
					wantMerge(t, l.tree(), r.tree(), f, at, merged(l, r, f, at).tree(), api.OK)
				})
			})
		}
	}
}

// P11.4: Merge, against the definition.
func TestMergeByDefinition(t *testing.T) {
	m := mixer(105)
	seen := map[api.Errno]int{}
	for i := range 12000 {
		s := m.stage(m.below(3 + i%20))
		if i%100 == 0 {
			s = m.stage(64)
		}
		switch m.below(20) {
		case 0:
			s.x, s.y = s.y, s.x
		case 1:
			s.f = without(s.f, m.pick(append(idsOf(s.f), -1)...))
		}
		want, e := oneOf(s.x, s.y, s.f, s.at)
		wantMerge(t, s.x, s.y, s.f, s.at, want, e)
		seen[e]++
	}
	enough(t, seen[api.OK])
	enough(t, seen[api.ErrOrder])
	if seen[api.ErrNone] < 100 || seen[api.ErrMany] < 10 {
		t.Error(seen)
	}
}
