package bracket_test

import (
	"testing"

	"peloton/api"
	"peloton/bracket"
)

// P10.1: Check of brackets that are valid, whether they are right or not.
func TestCheckValid(t *testing.T) {
	for _, s := range goodStages() {
		if e := bracket.Check(s.b); e != api.OK || !isValid(s.b) {
			t.Error(s.b, e)
		}
	}
	for _, b := range some() {
		if e := bracket.Check(b); e != api.OK || !isValid(b) {
			t.Error(b, e)
		}
	}
}

// P10.1: Check of brackets that are not valid, in each way.
func TestCheckBad(t *testing.T) {
	for reason, list := range badBrackets() {
		if len(list) < 5 {
			t.Error(reason, "has only", len(list))
		}
		for _, b := range list {
			if e := bracket.Check(b); e != api.ErrBad || isValid(b) {
				t.Error(reason, b, e)
			}
		}
	}
}

// P10.1: both ends of IDs, of places, and of what may be empty, and what is just beyond them.
func TestCheckEnds(t *testing.T) {
	for _, x := range []struct {
		b api.Bracket
		e api.Errno
	}{
		{of(ids(-1)), api.OK}, {of(ids(0)), api.OK}, {of(ids(top)), api.OK}, {of(ids(-2)), api.ErrBad}, {of(ids(top + 1)), api.ErrBad}, {of(nil), api.ErrBad}, {of(ids(4), 4), api.ErrBad},
		{of(ids(0, top), 0), api.OK}, {of(ids(0, top), top), api.OK}, {of(ids(0, top), -1), api.ErrBad}, {of(ids(0, top), 1), api.ErrBad}, {of(ids(-1, top), top), api.OK}, {of(ids(0, -1), 0), api.OK}, {of(ids(0, -1), -1), api.ErrBad}, {of(ids(-1, 0), -1), api.ErrBad},
		{of(ids(-1, -1), -1), api.OK}, {of(ids(-1, -1), 0), api.ErrBad}, {of(ids(0, 0), 0), api.ErrBad}, {of(ids(3, 3), 3), api.ErrBad}, {of(ids(0, top)), api.ErrBad}, {of(ids(0, top), 0, 0), api.ErrBad},
		{of(empties(64), empties(63)...), api.OK}, {of(empties(65), empties(64)...), api.ErrBad}, {of(empties(64), empties(64)...), api.ErrBad}, {of(empties(64), empties(62)...), api.ErrBad}, {rightOne(level(64), whole(0), upTo(64)), api.OK},
		// The winner of 1 and 2 goes up, and not the other one.
		{of(ids(4, 1, 2), 1, 1), api.OK}, {of(ids(4, 1, 2), 2, 2), api.OK}, {of(ids(4, 1, 2), 4, 2), api.OK}, {of(ids(4, 1, 2), 2, 1), api.ErrBad}, {of(ids(4, 1, 2), 1, 2), api.ErrBad}, {of(ids(4, 1, 2), 4, 4), api.ErrBad},
	} {
		if e := bracket.Check(x.b); e != x.e {
			t.Error(x, e)
		}
	}
}

// lists are all of n numbers from low to high.
func lists(n, low, high int) [][]int {
	if n == 0 {
		return [][]int{nil}
	}
	var all [][]int
	for _, list := range lists(n-1, low, high) {
		for k := low; k <= high; k++ {
			all = append(all, append(list[:len(list):len(list)], k))
		}
	}
	return all
}

// P10.1: each one of all small brackets with small numbers is valid or not as the definition says.
func TestCheckSmall(t *testing.T) {
	good := map[int]int{}
	for n := range 5 {
		for wins := range 4 {
			low := -2
			if n+wins > 5 {
				low = -1
			}
			for _, places := range lists(n, low, 1) {
				for _, list := range lists(wins, low, 1) {
					b := of(places, list...)
					want := api.ErrBad
					if isValid(b) {
						want = api.OK
						good[n]++
					}
					if e := bracket.Check(b); e != want {
						t.Fatal(b, e, want)
					}
				}
			}
		}
	}
	// With the IDs 0 and 1: at each place -1, 0 or 1; a pair of places has one winner, but 0 and 1 have two.
	// Three places: none is one; one ID at three places is six; two IDs at two of three, in both orders, are six times two.
	if good[0] != 0 || good[1] != 3 || good[2] != 1+4+2*2 || good[3] != 1+6+6*2 || good[4] != 1+8+12*2 {
		t.Error(good)
	}
}

// P10.1: Check, against the definition.
func TestCheckByDefinition(t *testing.T) {
	m := mixer(102)
	good, bad := 0, 0
	for i := range 30000 {
		b := m.spoiled(1 + i%9).b
		want := api.OK
		if !isValid(b) {
			want = api.ErrBad
			bad++
		} else {
			good++
		}
		if e := bracket.Check(b); e != want {
			t.Fatal(b, e, want)
		}
	}
	enough(t, good)
	enough(t, bad)
}
