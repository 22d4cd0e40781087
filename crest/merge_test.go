package crest_test

import (
	"slices"
	"testing"

	"peloton/api"
	"peloton/crest"
)

// wantMerged fails unless Merge of two crests, in this order and the other one, is this crest.
func wantMerged(t *testing.T, f api.Field, a, b, want []api.Lead) {
	t.Helper()
	if l, e := crest.Merge(f, a, b); !slices.Equal(l, want) || e != api.OK {
		t.Fatal("merge", f, a, b, l, e, want)
	}
	if l, e := crest.Merge(f, b, a); !slices.Equal(l, want) || e != api.OK {
		t.Fatal("merge", f, b, a, l, e, want)
	}
}

// P5.3: Merge, where it is known.
func TestMerge(t *testing.T) {
	same := of(pt(1, 0, 2), pt(3, 0, 2), pt(4, 1, 2), pt(6, 9, 0))
	for _, c := range []struct {
		f          api.Field
		a, b, want []api.Lead
	}{
		// One lead each: the other one leads from the meeting on, if it comes.
		{example(), row(lead(1, -1, 1)), row(lead(2, -1, 1)), row(lead(2, -1, 1), lead(1, 2, 1))},
		{example(), row(lead(2, -1, 1)), row(lead(5, -1, 1)), row(lead(2, -1, 1), lead(5, 6, 1))},
		{example(), row(lead(1, -1, 1)), row(lead(5, -1, 1)), row(lead(5, -1, 1), lead(1, 0, 1))},
		{example(), row(lead(1, 3, 1)), row(lead(2, 3, 1)), row(lead(1, 3, 1))},
		{example(), row(lead(5, 7, 1)), row(lead(2, 7, 1)), row(lead(5, 7, 1))},
		// The same one, or the same crest.
		{example(), row(lead(5, 0, 1)), row(lead(5, 0, 1)), row(lead(5, 0, 1))},
		{example(), row(lead(5, 0, 1), lead(2, 1, 1)), row(lead(5, 0, 1), lead(2, 1, 1)), row(lead(5, 0, 1), lead(2, 1, 1))},
		// They meet exactly when the crests begin.
		{example(), row(lead(2, 2, 1)), row(lead(1, 2, 1)), row(lead(1, 2, 1))},
		{example(), row(lead(2, 6, 1)), row(lead(5, 6, 1)), row(lead(5, 6, 1))},
		{example(), row(lead(1, 0, 1)), row(lead(5, 0, 1)), row(lead(1, 0, 1))},
		// The meeting comes exactly at a change, just before it, and just behind it.
		{example(), row(lead(1, 0, 1), lead(5, 2, 1)), row(lead(2, 0, 1)), row(lead(2, 0, 1), lead(5, 6, 1))},
		{example(), row(lead(1, 0, 1), lead(5, 2, 1)), row(lead(2, 0, 1), lead(1, 2, 1)), row(lead(2, 0, 1), lead(1, 2, 1))},
		{example(), row(lead(1, 0, 1), lead(5, 2001, 1000)), row(lead(2, 0, 1)), row(lead(2, 0, 1), lead(1, 2, 1), lead(2, 2001, 1000), lead(5, 6, 1))},
		{example(), row(lead(1, 0, 1), lead(5, 1999, 1000)), row(lead(2, 0, 1)), row(lead(2, 0, 1), lead(5, 6, 1))},
		{example(), row(lead(5, 0, 1), lead(1, 2, 1)), row(lead(2, 0, 1)), row(lead(2, 0, 1), lead(1, 2, 1))},
		// One leads again, though it had been overtaken.
		{example(), row(lead(1, 0, 1), lead(5, 3, 1)), row(lead(2, 0, 1)), row(lead(2, 0, 1), lead(1, 2, 1), lead(2, 3, 1), lead(5, 6, 1))},
		{example(), row(lead(5, 0, 1), lead(1, 1, 1), lead(5, 2, 1)), row(lead(1, 0, 1), lead(5, 1, 1), lead(1, 3, 1)), row(lead(1, 0, 1), lead(5, 2, 1), lead(1, 3, 1))},
		// Changes of the one that is behind, and of one that takes over from the other crest, are none.
		{example(), row(lead(1, 3, 1)), row(lead(2, 3, 1), lead(5, 4, 1), lead(2, 7, 1)), row(lead(1, 3, 1))},
		{example(), row(lead(2, 3, 1), lead(1, 4, 1)), row(lead(1, 3, 1), lead(5, 4, 1)), row(lead(1, 3, 1))},
		// Points at the same place at all times: the lesser ID; and points with the same speed: the one further on.
		{same, row(lead(3, 0, 1)), row(lead(1, 0, 1)), row(lead(1, 0, 1))},
		{same, row(lead(3, 0, 1)), row(lead(1, 0, 1), lead(6, 1, 1)), row(lead(1, 0, 1), lead(6, 1, 1), lead(3, 9, 2))},
		{same, row(lead(3, 0, 1)), row(lead(1, 0, 1), lead(6, 1, 1), lead(1, 2, 1)), row(lead(1, 0, 1), lead(6, 1, 1), lead(1, 2, 1))},
		{same, row(lead(4, -1, 1)), row(lead(1, -1, 1), lead(3, 0, 1)), row(lead(4, -1, 1))},
		{same, row(lead(6, -1, 1)), row(lead(1, -1, 1), lead(3, 0, 1), lead(4, 3, 1)), row(lead(6, -1, 1), lead(4, 4, 1))},
		// From the first of all times on, and from the last one.
		{example(), row(lead(1, -most, 1)), row(lead(2, -most, 1), lead(5, most, 1)), row(lead(2, -most, 1), lead(1, 2, 1))},
		{example(), row(lead(1, most, 1)), row(lead(2, most, 1)), row(lead(1, most, 1))},
		{of(pt(1, 1, -coord), pt(2, 0, coord)), row(lead(1, 1, 2*coord+1)), row(lead(2, 1, 2*coord+1)), row(lead(1, 1, 2*coord+1), lead(2, 1, 2*coord))},
	} {
		wantMerged(t, c.f, c.a, c.b, c.want)
	}
}

// P5.3: Merge, against the definition.
func TestMergeByDefinition(t *testing.T) {
	seen := 0
	forPairs(func(f api.Field, a, b []api.Lead) {
		want := merged(f, a, b)
		wantMerged(t, f, a, b, want)
		seen += len(want) - 1
	})
	enough(t, seen)
}

// P5.3: crests with MaxCrest leads are merged too, also where more come of it, and those with one more are not.
func TestMergeOfMost(t *testing.T) {
	f := of(pt(1, 0, 0), pt(2, 10, 0), pt(5, 20, 0), pt(7, 30, 0))
	between := row(lead(2, 0, 1))
	for i := int64(1); i < 300; i++ {
		between = append(between, lead(2+int(i%2)*5, 2*i-1, 2))
	}
	for _, c := range [][2][]api.Lead{
		{steps(300), steps(300)},
		{steps(300), row(lead(2, 0, 1))},
		{steps(300), row(lead(7, 0, 1))},
		{steps(300), steps(1)},
		{steps(299), between},
		{steps(300), between},
	} {
		wantMerged(t, f, c[0], c[1], merged(f, c[0], c[1]))
	}
	if n := len(merged(f, steps(300), between)); n <= 300 {
		t.Error("not more leads:", n)
	}
	m := mixer(4)
	for _, g := range []api.Field{example(), inTurn(9), m.field(13, 20), m.field(5, 3)} {
		a, b := m.crest(g, frac(-40, 1), 300), m.crest(g, frac(-40, 1), 300)
		wantMerged(t, g, a, b, merged(g, a, b))
	}
	for _, l := range [][]api.Lead{steps(1), steps(300), steps(301)} {
		wantMergeError(t, f, steps(301), l, api.ErrBad)
		wantMergeError(t, f, l, steps(301), api.ErrBad)
	}
}

func wantMergeError(t *testing.T, f api.Field, a, b []api.Lead, want api.Errno) {
	t.Helper()
	if l, e := crest.Merge(f, a, b); len(l) > 0 || e != want {
		t.Fatal("merge", f, a, b, l, e, want)
	}
}

// P5.3: crests that do not begin at the same time are ErrArg, also where they only just do not.
func TestMergeOfOtherTimes(t *testing.T) {
	begin := times()
	for i, from := range begin {
		for j, other := range begin {
			a, b := row(api.Lead{From: from, ID: 1}), row(api.Lead{From: other, ID: 2})
			l, e := crest.Merge(example(), a, b)
			if (i == j) != (e == api.OK) || i != j && (e != api.ErrArg || len(l) > 0) {
				t.Fatal(from, other, l, e)
			}
		}
	}
	wantMergeError(t, example(), row(lead(1, 0, 1)), row(lead(1, -1, 1), lead(2, 0, 1)), api.ErrArg)
	wantMergeError(t, example(), row(lead(1, 0, 1), lead(5, 1, 1)), row(lead(2, 1, 1)), api.ErrArg)
}

// P5.3: a point of any lead that the field does not have is ErrNone, also where the field has points before and behind it, or none.
func TestMergeWithoutPoints(t *testing.T) {
	fine := row(lead(1, 0, 1), lead(5, 1, 1), lead(2, 2, 1))
	for _, id := range []int{0, 3, 4, 6, api.MaxID} {
		for i := range fine {
			l := slices.Clone(fine)
			l[i].ID = id
			for _, other := range [][]api.Lead{fine, l, fine[:1], row(lead(2, 0, 1), lead(1, 1, 2))} {
				wantMergeError(t, example(), l, other, api.ErrNone)
				wantMergeError(t, example(), other, l, api.ErrNone)
			}
		}
	}
	for _, f := range []api.Field{{}, of(pt(1, 0, 2)), of(pt(2, 0, 2), pt(5, 0, 0)), of(pt(1, 0, 0), pt(5, 0, 0)), of(pt(1, 0, 0), pt(2, 0, 0))} {
		wantMergeError(t, f, fine, fine, api.ErrNone)
	}
}

// errorOf is the first error of Merge that applies to two crests, which are valid or not, in a valid field.
func errorOf(f api.Field, a, b []api.Lead) api.Errno {
	missing := func(x api.Lead) bool {
		return !slices.ContainsFunc(f.Points, func(p api.Point) bool { return p.ID == x.ID })
	}
	switch {
	case crest.Check(a) != api.OK || crest.Check(b) != api.OK:
		return api.ErrBad
	case a[0].From != b[0].From:
		return api.ErrArg
	case slices.ContainsFunc(a, missing) || slices.ContainsFunc(b, missing):
		return api.ErrNone
	}
	return api.OK
}

// R1: the first error of several, for all pairs of crests that are valid or not.
func TestMergeErrors(t *testing.T) {
	list := slices.Concat(badCrests(), goodCrests())
	seen := map[api.Errno]int{}
	for i, f := range []api.Field{{}, example(), of(pt(0, 1, 1), pt(1, 2, 2), pt(2, 3, 3), pt(3, 3, 3), pt(4, 4, 4), pt(5, 5, 5), pt(9, 0, 0), pt(api.MaxID, 7, 7))} {
		for j, a := range list {
			for k, b := range list {
				// All pairs of a field are seen, but not with all fields.
				if (i+j+k)%3 > 0 {
					continue
				}
				want := errorOf(f, a, b)
				seen[want]++
				l, e := crest.Merge(f, a, b)
				if e != want || (len(l) == 0) != (e != api.OK) {
					t.Fatal(f, a, b, l, e, want)
				}
			}
		}
	}
	if seen[api.ErrBad] < 1000 || seen[api.ErrArg] < 50 || seen[api.ErrNone] < 20 || seen[api.OK] < 20 {
		t.Error("hardly seen", seen)
	}
	for e, bad := range badFields() {
		for _, f := range bad {
			for j, a := range list {
				wantMergeError(t, f, a, list[(j*7+3)%len(list)], e)
			}
			wantMergeError(t, f, steps(3), steps(4), e)
			wantMergeError(t, f, steps(3), row(lead(1, 9, 1)), e)
		}
	}
}

// P5.3: a field may have more points than the crests, whoever is ahead.
func TestMergeInLargerField(t *testing.T) {
	f := many(64, 0, func(i int64) (a, b int64) { return coord - i, coord - i%5 })
	f.Points[11], f.Points[40] = pt(11, 0, 2), pt(40, 6, -1)
	wantMerged(t, f, row(lead(11, -1, 1)), row(lead(40, -1, 1)), row(lead(40, -1, 1), lead(11, 2, 1)))
}
