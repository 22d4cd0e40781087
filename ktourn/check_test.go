package ktourn_test

import (
	"slices"
	"testing"

	"peloton/api"
	"peloton/bracket"
	"peloton/clock"
)

// P15.1: Check of tournaments that are valid.
func TestCheckValid(t *testing.T) {
	for _, k := range goodTourns() {
		if !isValid(k) {
			t.Error(k)
		}
		wantCheck(t, k, api.OK)
	}
}

// P15.1: Check of tournaments that are not valid, in each way.
func TestCheckBad(t *testing.T) {
	for reason, list := range badTourns() {
		if len(list) < 5 {
			t.Error(reason, "has only", len(list))
		}
		for _, k := range list {
			if isValid(k) {
				t.Error(reason, k)
			}
			wantCheck(t, k, api.ErrBad)
		}
	}
}

// What is wrong with a tournament but for its clock is alone: the clock is valid, and where the winners are behind, or the number of places is another one, or certificates are not the edges, so is the bracket.
func TestOneThingIsWrong(t *testing.T) {
	for reason, list := range badButClocks() {
		for _, k := range list {
			if e := clock.Check(k.Clock); e != api.OK {
				t.Fatal(reason, k, e)
			}
		}
	}
	for reason, list := range badClocks() {
		for _, k := range list {
			if e := clock.Check(k.Clock); e != api.ErrBad {
				t.Fatal(reason, k, e)
			}
		}
	}
	alone := unlike()
	alone["behind"] = otherWinners()["a winner that is behind"]
	alone["places"] = slices.DeleteFunc(otherSizes(), func(k api.KTourn) bool { return len(k.Bracket.Places) > 64 })
	for reason, list := range alone {
		for _, k := range list {
			right, e := bracket.Right(k.Bracket, k.Clock.Field, k.Clock.Now)
			if e != api.OK || right != (reason != "behind") {
				t.Fatal(reason, k, right, e)
			}
		}
	}
}

// P15.1: points may be at any places, of any number that is a power of 2, and all of them in one half; certificates may have any numbers and slots.
func TestCheckAnyPlaces(t *testing.T) {
	for _, places := range [][]int{
		{1, 2, 5, -1}, {5, 2, 1, -1}, {-1, 5, 1, 2}, {2, -1, 1, 5}, {1, 2, 5, -1, -1, -1, -1, -1}, {-1, -1, -1, -1, 5, -1, 1, 2}, {-1, 5, -1, 1, -1, -1, 2, -1}, {-1, -1, 1, -1, -1, -1, 2, 5},
		slices.Concat(numbers(2, 5, 1), empties(61)), slices.Concat(empties(61), numbers(2, 5, 1)), slices.Concat(numbers(5), empties(30), numbers(2), empties(31), numbers(1)),
	} {
		wantCheck(t, tournOf(whole(0), moving(), places...), api.OK)
		wantCheck(t, tournOf(whole(2), moving(), places...), api.OK)
	}
	for _, n := range sizes() {
		wantCheck(t, tournOf(whole(0), api.Field{}, empties(n)...), api.OK)
		for i := range n {
			places := empties(n)
			places[i] = 3
			wantCheck(t, tournOf(whole(0), points(pt(3, 0, 0)), places...), api.OK)
		}
	}
	// The edges are certificates in another order than that of the nodes.
	wantCheck(t, api.KTourn{Clock: clockOf(whole(0), moving(), over(2, 1), over(2, 5)), Bracket: early().Bracket}, api.OK)
	m := mixer(154)
	others := 0
	for i := range 1500 {
		k := m.tourn(i % 13)
		if i%100 == 0 {
			k = m.tourn(64)
		}
		wantCheck(t, k, api.OK)
		if built, _ := made(k.Clock.Field, k.Clock.Now); !slices.Equal(built.Bracket.Places, k.Bracket.Places) {
			others++
		}
	}
	if others < 500 {
		t.Error("seen only", others)
	}
}

// P15.1: the winners are right up to the meeting, and not at it any more; at a meeting the faster one wins.
func TestCheckNow(t *testing.T) {
	for _, x := range []struct {
		now          api.Ratio
		early, later api.Errno
	}{
		{whole(-most), api.OK, api.ErrBad}, {whole(0), api.OK, api.ErrBad}, {whole(1), api.OK, api.ErrBad}, {frac(2*fine-1, fine), api.OK, api.ErrBad},
		{whole(2), api.ErrBad, api.OK}, {frac(2*fine+1, fine), api.ErrBad, api.OK}, {whole(6), api.ErrBad, api.OK}, {whole(most), api.ErrBad, api.OK},
	} {
		wantCheck(t, tournWith(x.now, moving(), early().Bracket), x.early)
		wantCheck(t, tournWith(x.now, moving(), late().Bracket), x.later)
	}
	// Where 5 is ahead of 2, from 6 on, is asked for if these are at places side by side, and 1 is ahead of both.
	for _, now := range []api.Ratio{whole(2), whole(5), whole(6), whole(7)} {
		after := compare(now, whole(6)) >= 0
		for _, winner := range numbers(2, 5) {
			want := api.ErrBad
			if (winner == 5) == after {
				want = api.OK
			}
			wantCheck(t, tournWith(now, moving(), api.Bracket{Places: numbers(1, -1, 2, 5), Wins: numbers(1, 1, winner)}), want)
		}
	}
}

// P15.1: Check, against the definition.
func TestCheckByDefinition(t *testing.T) {
	m := mixer(155)
	good, bad := 0, 0
	for i := range 6000 {
		k := m.spoiled(i % 9)
		want := api.OK
		if !isValid(k) {
			want = api.ErrBad
			bad++
		} else {
			good++
		}
		wantCheck(t, k, want)
	}
	if good < 300 {
		t.Error("seen only", good)
	}
	enough(t, bad)
}

// lists are all of n numbers from -1 to high.
func lists(n, high int) [][]int {
	all := [][]int{nil}
	for range n {
		var longer [][]int
		for _, list := range all {
			for k := -1; k <= high; k++ {
				longer = append(longer, append(slices.Clone(list), k))
			}
		}
		all = longer
	}
	return all
}

// smallFields are some with the IDs 0 to 2, whose points meet at 0 or 1, or never.
func smallFields() []api.Field {
	return []api.Field{points(pt(0, 0, 1), pt(1, 0, 0), pt(2, 0, -1)), points(pt(0, 1, 1), pt(1, 1, 1), pt(2, 2, 0)), points(pt(0, 0, 0), pt(2, 0, 1)), points(pt(1, 0, 0)), {}}
}

// P15.1: all small brackets, with their edges as the certificates, at a few times.
func TestCheckAllSmall(t *testing.T) {
	good, bad := map[int]int{}, 0
	for _, f := range smallFields() {
		for _, now := range []api.Ratio{whole(-1), whole(0), whole(1)} {
			for n := range 5 {
				for _, places := range lists(n, 2) {
					for _, wins := range lists(n-1, 2) {
						k := tournWith(now, f, api.Bracket{Places: places, Wins: wins})
						want := api.ErrBad
						if isValid(k) {
							want = api.OK
							good[n]++
						} else {
							bad++
						}
						wantCheck(t, k, want)
					}
				}
			}
		}
	}
	// At each of three times: no points at one, two and four places; one point at any of them; two at two places in both orders, and at four in twelve ways; three at four in 24 ways, for both fields.
	if good[0] != 0 || good[1] != 3*(1+1) || good[2] != 3*(1+2+2) || good[3] != 0 || good[4] != 3*(1+4+12+2*24) {
		t.Error(good)
	}
	enough(t, bad)
}

// P15.1: all sets of certificates beside small brackets that are right.
func TestCheckAllSets(t *testing.T) {
	pairs := certs(over(0, 1), over(1, 0), over(0, 2), over(2, 0), over(1, 2), over(2, 1))
	good, bad := 0, 0
	for _, f := range smallFields() {
		for _, now := range []api.Ratio{whole(-1), whole(0), whole(1)} {
			for set := range 64 {
				var list []api.Cert
				for i, x := range pairs {
					if set>>i&1 == 1 {
						list = append(list, x)
					}
				}
				if !hasAll(f, list) {
					continue
				}
				c := clockOf(now, f, list...)
				for _, n := range numbers(1, 2, 4) {
					for _, places := range lists(n, 2) {
						if !slices.Equal(slices.Sorted(slices.Values(idsAt(places))), idsOf(f)) {
							continue
						}
						k := api.KTourn{Clock: c, Bracket: bracketOf(now, f, places...)}
						want := api.ErrBad
						if isValid(k) {
							want = api.OK
							good++
						} else {
							bad++
						}
						wantCheck(t, k, want)
					}
				}
			}
		}
	}
	// Of all sets just one fits each bracket.
	if good != 3*(1+1)+3*(1+2+2)+3*(1+4+12+2*24) {
		t.Error("seen", good)
	}
	enough(t, bad)
}
