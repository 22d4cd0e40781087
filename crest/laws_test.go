package crest_test

import (
	"slices"
	"testing"

	"peloton/api"
	"peloton/crest"
	"peloton/field"
)

// crestOf is Of a field and a time that are valid, which is a valid crest.
func crestOf(t *testing.T, f api.Field, from api.Ratio) []api.Lead {
	t.Helper()
	l, e := crest.Of(f, from)
	if e != api.OK || crest.Check(l) != api.OK {
		t.Fatal(f, from, l, e)
	}
	return l
}

// P5.4: at each time the crest's leader leads, by layer 3.
func TestLeaderLeads(t *testing.T) {
	seen := 0
	forCrests(func(f api.Field, _ func(api.Ratio) []api.Lead, at []api.Ratio) {
		for i, from := range at {
			if len(f.Points) > 20 && i%5 > 0 {
				continue
			}
			l := crestOf(t, f, from)
			for _, r := range at[i:] {
				id, e := crest.At(l, r)
				first, g := field.Leader(f, r)
				if id != first || e != api.OK || g != api.OK {
					t.Fatal(f, from, r, id, e, first, g)
				}
				seen++
			}
		}
	})
	enough(t, seen)
}

// P5.4: along a crest of a field speeds increase strictly, so it has each point once at most.
func TestSpeedsIncrease(t *testing.T) {
	seen := 0
	forCrests(func(f api.Field, _ func(api.Ratio) []api.Lead, at []api.Ratio) {
		for _, from := range at {
			l := crestOf(t, f, from)
			if len(l) > len(f.Points) {
				t.Fatal(f, from, l)
			}
			had := map[int]bool{}
			for i, x := range l {
				if had[x.ID] || i > 0 && byID(f, x.ID).B <= byID(f, l[i-1].ID).B {
					t.Fatal(f, from, l)
				}
				had[x.ID] = true
				seen++
			}
		}
	})
	enough(t, seen)
}

// P5.4: the crest from a later time on is the end of the one from an earlier time on, but for its first time.
func TestLaterIsTheEnd(t *testing.T) {
	seen := 0
	forCrests(func(f api.Field, _ func(api.Ratio) []api.Lead, at []api.Ratio) {
		for i, from := range at {
			whole := crestOf(t, f, from)
			for j := i + i%3; j < len(at); j += 3 + len(f.Points)/4 {
				end := crestOf(t, f, at[j])
				rest := slices.Clone(whole[max(0, len(whole)-len(end)):])
				rest[0].From = at[j]
				if len(end) > len(whole) || !slices.Equal(end, rest) || len(end) < len(whole) && earlier(whole[len(whole)-len(end)].From, at[j]) > 0 {
					t.Fatal(f, from, at[j], whole, end)
				}
				if len(end) < len(whole) {
					seen++
				}
			}
		}
	})
	enough(t, seen)
}

// parts are pairs of fields that have all points of a field together, and at least one each; some points may be in both.
func parts(f api.Field) [][2]api.Field {
	var list [][2]api.Field
	n := len(f.Points)
	for _, in := range []func(i int) (a, b bool){
		func(i int) (a, b bool) { return i%2 == 0, i%2 == 1 },
		func(i int) (a, b bool) { return i < n/2, i >= n/2 },
		func(i int) (a, b bool) { return i == n-1, i < n-1 },
		func(i int) (a, b bool) { return i%3 < 2, i%3 > 0 },
		func(i int) (a, b bool) { return true, i == n/3 },
		func(i int) (a, b bool) { return true, true },
	} {
		var p [2]api.Field
		for i, x := range f.Points {
			a, b := in(i)
			if a {
				p[0].Points = append(p[0].Points, x)
			}
			if b {
				p[1].Points = append(p[1].Points, x)
			}
		}
		if len(p[0].Points) > 0 && len(p[1].Points) > 0 {
			list = append(list, p)
		}
	}
	return list
}

// P5.4: the crest of a field is the merged one of the crests of two parts that have all its points.
func TestMergedParts(t *testing.T) {
	seen := 0
	forCrests(func(f api.Field, _ func(api.Ratio) []api.Lead, at []api.Ratio) {
		for _, p := range parts(f) {
			for i, from := range at {
				if len(f.Points) > 20 && i%3 > 0 {
					continue
				}
				a, b := crestOf(t, p[0], from), crestOf(t, p[1], from)
				want := crestOf(t, f, from)
				wantMerged(t, f, a, b, want)
				if len(want) > 1 {
					seen++
				}
			}
		}
	})
	enough(t, seen)
}

// P5.4: a field that is put together from single points, one after the other, has the crest of these.
func TestMergedOneByOne(t *testing.T) {
	for _, f := range fields() {
		for _, from := range []api.Ratio{always, frac(-1, 3), frac(4, 1)} {
			l := crestOf(t, of(f.Points[0]), from)
			for _, p := range f.Points[1:] {
				var e api.Errno
				if l, e = crest.Merge(f, l, crestOf(t, of(p), from)); e != api.OK {
					t.Fatal(f, from, p, e)
				}
			}
			if want := crestOf(t, f, from); !slices.Equal(l, want) {
				t.Fatal(f, from, l, want)
			}
		}
	}
}
