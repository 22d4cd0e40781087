package crest_test

import (
	"testing"

	"peloton/api"
	"peloton/crest"
)

// steps is a crest of n leads, with the IDs 1 and 5 in turn, at whole times from 0 on.
func steps(n int) []api.Lead {
	var list []api.Lead
	for i := range n {
		list = append(list, lead(1+i%2*4, int64(i), 1))
	}
	return list
}

// goodCrests are valid ones, up to both ends of all that is limited.
func goodCrests() [][]api.Lead {
	return [][]api.Lead{
		row(lead(0, 0, 1)), row(lead(api.MaxID, 0, 1)), row(lead(4, -most, 1)), row(lead(4, most, 1)), row(lead(4, 1, most)), row(lead(4, -most, most-1)),
		row(lead(2, -1, 1), lead(1, 2, 1)),
		row(lead(2, -1, 1), lead(1, 0, 1), lead(2, 1, 3)),
		row(lead(api.MaxID, -most, 1), lead(0, most, 1)),
		// Times that are as close as times may be.
		row(lead(1, -1, most-1), lead(2, -1, most), lead(1, 0, 1), lead(2, 1, most), lead(3, 1, most-1)),
		row(lead(3, most-2, most-1), lead(4, most-1, most), lead(3, 1, 1), lead(9, most, most-1)),
		steps(2), steps(7), steps(299), steps(300),
	}
}

// changed is a crest of n leads in which one is another one.
func changed(n, at int, x api.Lead) []api.Lead {
	list := steps(n)
	list[at] = x
	return list
}

// badCrests are crests that are not valid, each one for another reason.
func badCrests() [][]api.Lead {
	list := [][]api.Lead{
		nil, {}, make([]api.Lead, 0, 9), steps(301), steps(302), steps(5000), make([]api.Lead, 1), make([]api.Lead, 400),
		// The same time twice, and times that decrease, at the start, in the middle, and at the end.
		row(lead(1, 2, 1), lead(2, 2, 1)), row(lead(1, 2, 1), lead(2, 1, 1)), row(lead(1, 1, most-1), lead(2, 1, most)), row(lead(1, -1, most), lead(2, -1, most-1)),
		row(lead(1, most, 1), lead(2, -most, 1)), row(lead(1, 0, 1), lead(2, -most, 1), lead(3, most, 1)),
		changed(9, 0, lead(9, 1, 1)), changed(9, 0, lead(9, 3, 2)), changed(9, 4, lead(9, 3, 1)), changed(9, 4, lead(9, 5, 1)), changed(9, 4, lead(9, 11, 2)),
		changed(9, 8, lead(9, 7, 1)), changed(9, 8, lead(9, 13, 2)), changed(300, 299, lead(9, 298, 1)),
		// The same ID twice, at the start, in the middle, and at the end.
		row(lead(1, 0, 1), lead(1, 1, 1)), row(lead(0, 0, 1), lead(0, 1, 1)),
		changed(9, 0, lead(5, 0, 1)), changed(9, 4, lead(5, 4, 1)), changed(9, 8, lead(5, 8, 1)), changed(300, 299, lead(1, 299, 1)),
		// Several of these, and nothing that is right.
		row(lead(1, 0, 1), lead(1, 0, 1)), row(lead(-1, 0, 0), lead(-1, least, least)),
	}
	for _, bad := range badTimes() {
		x := api.Lead{From: bad, ID: 9}
		list = append(list, row(x), changed(9, 0, x), changed(9, 4, x), changed(9, 8, x), changed(300, 299, x))
	}
	for _, id := range []int{-1, api.MaxID + 1, least, most} {
		list = append(list, row(lead(id, 0, 1)), changed(9, 0, lead(id, 0, 1)), changed(9, 4, lead(id, 4, 1)), changed(9, 8, lead(id, 8, 1)), changed(300, 299, lead(id, 299, 1)))
	}
	return list
}

// P5.1: Check.
func TestCheck(t *testing.T) {
	for _, l := range goodCrests() {
		if e := crest.Check(l); e != api.OK {
			t.Error(l, e)
		}
	}
	for _, l := range badCrests() {
		if e := crest.Check(l); e != api.ErrBad {
			t.Error(l, e)
		}
	}
}

// isValid follows the definition of a valid crest, with leads whose times are valid.
func isValid(l []api.Lead) bool {
	fine := 1 <= len(l) && len(l) <= 300
	for i, x := range l {
		fine = fine && 0 <= x.ID && x.ID <= 65535
		fine = fine && (i == 0 || earlier(l[i-1].From, x.From) < 0 && l[i-1].ID != x.ID)
	}
	return fine
}

// P5.1: Check of crests by chance, of which many are valid, and many are not.
func TestCheckByDefinition(t *testing.T) {
	good, bad := 0, 0
	m := mixer(9)
	for range 20000 {
		var l []api.Lead
		for i := range 1 + m.below(5) {
			l = append(l, api.Lead{From: []api.Ratio{frac(4*i-m.below(8), 1), frac(2*i+1, 2), frac(3*i+1, 3)}[m.below(3)], ID: int(m.below(7) * (api.MaxID + 1) / 6)})
		}
		// Each ID that is too great comes back seldom, so that enough are valid.
		if m.below(3) > 0 {
			for i := range l {
				l[i].ID %= api.MaxID
			}
		}
		want := api.ErrBad
		if isValid(l) {
			want = api.OK
			good++
		} else {
			bad++
		}
		if e := crest.Check(l); e != want {
			t.Fatal(l, e, want)
		}
	}
	enough(t, good)
	enough(t, bad)
}
