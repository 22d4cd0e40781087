package ktourn_test

import (
	"slices"
	"testing"

	"peloton/api"
	"peloton/field"
	"peloton/ktourn"
)

func wantEdges(t *testing.T, k api.KTourn, want []api.Cert, e api.Errno) {
	t.Helper()
	if list, g := ktourn.Edges(k); !slices.Equal(list, want) || g != e {
		t.Fatal("edges", k, list, g, want, e)
	}
}

func wantLeader(t *testing.T, k api.KTourn, want int, e api.Errno) {
	t.Helper()
	if id, g := ktourn.Leader(k); id != want || g != e {
		t.Fatal("leader", k, id, g, want, e)
	}
}

// P15.1: the edges of no points, of one, of two, and of more, in the order of the nodes: that of the root comes first.
func TestEdges(t *testing.T) {
	for _, n := range sizes() {
		wantEdges(t, tournOf(whole(0), api.Field{}, empties(n)...), nil, api.OK)
		wantEdges(t, tournOf(whole(0), points(pt(3, 0, 0)), slices.Concat(empties(n-1), numbers(3))...), nil, api.OK)
	}
	two := points(pt(3, 0, 0), pt(4, 1, 0))
	for _, places := range [][]int{{3, 4}, {4, 3}, {3, 4, -1, -1}, {-1, -1, 4, 3}, {3, -1, 4, -1}, {-1, 4, 3, -1}, {-1, -1, 4, -1, -1, 3, -1, -1}, slices.Concat(numbers(4), empties(62), numbers(3))} {
		wantEdges(t, tournOf(whole(0), two, places...), certs(over(4, 3)), api.OK)
	}
	wantEdges(t, early(), certs(over(2, 5), over(2, 1)), api.OK)
	wantEdges(t, late(), certs(over(1, 5), over(1, 2)), api.OK)
	wantEdges(t, tournOf(whole(0), moving(), 5, -1, 2, 1), certs(over(2, 5), over(2, 1)), api.OK)
	wantEdges(t, tournOf(whole(0), moving(), 5, 1, -1, 2), certs(over(2, 1), over(1, 5)), api.OK)
	wantEdges(t, tournOf(whole(0), moving(), -1, -1, -1, -1, 2, -1, 5, 1), certs(over(2, 1), over(1, 5)), api.OK)
	wantEdges(t, build(t, level(8), whole(0)), certs(over(7, 3), over(3, 1), over(7, 5), over(1, 0), over(3, 2), over(5, 4), over(7, 6)), api.OK)
	wantEdges(t, build(t, level(8), whole(1)), certs(over(0, 4), over(0, 2), over(4, 6), over(0, 1), over(2, 3), over(4, 5), over(6, 7)), api.OK)
	wantEdges(t, build(t, level(5), whole(0)), certs(over(4, 3), over(3, 1), over(1, 0), over(3, 2)), api.OK)
	// The certificates have the numbers in another order.
	wantEdges(t, api.KTourn{Clock: clockOf(whole(0), moving(), over(2, 1), over(2, 5)), Bracket: early().Bracket}, certs(over(2, 5), over(2, 1)), api.OK)
}

// P15.1: the leader of no points is ErrEmpty, that of one is this, wherever it is.
func TestLeader(t *testing.T) {
	for _, n := range sizes() {
		wantLeader(t, tournOf(whole(0), api.Field{}, empties(n)...), 0, api.ErrEmpty)
		for _, id := range numbers(0, 3, top) {
			wantLeader(t, tournOf(whole(0), points(pt(id, -9, 0)), slices.Concat(numbers(id), empties(n-1))...), id, api.OK)
			wantLeader(t, tournOf(whole(0), points(pt(id, -9, 0)), slices.Concat(empties(n-1), numbers(id))...), id, api.OK)
		}
	}
	wantLeader(t, early(), 2, api.OK)
	wantLeader(t, late(), 1, api.OK)
	wantLeader(t, build(t, standing(64), whole(0)), 0, api.OK)
	wantLeader(t, build(t, level(64), whole(0)), 63, api.OK)
	wantLeader(t, build(t, twins(64), whole(0)), 5, api.OK)
}

// P15.1: Edges and Leader, against the definitions, and the leader against layer 3.
func TestTellByDefinition(t *testing.T) {
	m := mixer(156)
	list := goodTourns()
	for i := range 1500 {
		list = append(list, m.tourn(i%16))
	}
	for _, k := range list {
		id, e := leader(k)
		wantLeader(t, k, id, e)
		if other, g := field.Leader(k.Clock.Field, k.Clock.Now); other != id || g != e {
			t.Fatal(k, other, g)
		}
		wantEdges(t, k, edgesOf(k.Bracket), api.OK)
	}
}

// P15.1: Edges and Leader of tournaments that are not valid, also of those that have a leader and edges.
func TestTellBad(t *testing.T) {
	for _, list := range badTourns() {
		for _, k := range list {
			wantEdges(t, k, nil, api.ErrBad)
			wantLeader(t, k, 0, api.ErrBad)
		}
	}
}
