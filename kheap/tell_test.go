package kheap_test

import (
	"slices"
	"testing"

	"peloton/api"
	"peloton/field"
	"peloton/kheap"
)

func wantEdges(t *testing.T, k api.KHeap, want []api.Cert, e api.Errno) {
	t.Helper()
	if list, g := kheap.Edges(k); !slices.Equal(list, want) || g != e {
		t.Fatal("edges", k, list, g, want, e)
	}
}

func wantLeader(t *testing.T, k api.KHeap, want int, e api.Errno) {
	t.Helper()
	if id, g := kheap.Leader(k); id != want || g != e {
		t.Fatal("leader", k, id, g, want, e)
	}
}

func wantNext(t *testing.T, k api.KHeap, want api.Event, e api.Errno) {
	t.Helper()
	if y, g := kheap.Next(k); y != want || g != e {
		t.Fatal("next", k, y, g, want, e)
	}
}

// P13.1: the edges of no points, of one, of two, and of seven, in the order of the places below.
func TestEdges(t *testing.T) {
	wantEdges(t, heapOf(whole(0), api.Field{}), nil, api.OK)
	wantEdges(t, heapOf(whole(0), points(pt(3, 0, 0)), 3), nil, api.OK)
	wantEdges(t, heapOf(whole(0), points(pt(3, 0, 0), pt(4, 1, 0)), 4, 3), certs(over(4, 3)), api.OK)
	wantEdges(t, early(), certs(over(2, 1), over(2, 5)), api.OK)
	wantEdges(t, late(), certs(over(1, 2), over(1, 5)), api.OK)
	wantEdges(t, heapOf(whole(0), moving(), 2, 5, 1), certs(over(2, 5), over(2, 1)), api.OK)
	wantEdges(t, build(t, level(7), whole(0)), certs(over(6, 3), over(6, 5), over(3, 0), over(3, 2), over(5, 1), over(5, 4)), api.OK)
	// The certificates have the numbers in another order.
	k := api.KHeap{Clock: clockOf(whole(0), moving(), over(2, 5), over(2, 1)), Heap: numbers(2, 1, 5)}
	wantEdges(t, k, certs(over(2, 1), over(2, 5)), api.OK)
}

// P13.1: the leader of no points is ErrEmpty, that of one is this.
func TestLeader(t *testing.T) {
	wantLeader(t, heapOf(whole(0), api.Field{}), 0, api.ErrEmpty)
	wantLeader(t, heapOf(whole(0), points(pt(3, -9, 0)), 3), 3, api.OK)
	wantLeader(t, heapOf(whole(0), points(pt(0, -9, 0)), 0), 0, api.OK)
	wantLeader(t, early(), 2, api.OK)
	wantLeader(t, late(), 1, api.OK)
	wantLeader(t, build(t, standing(64), whole(0)), 0, api.OK)
	wantLeader(t, build(t, level(64), whole(0)), 63, api.OK)
}

// P13.1: the first event, and ErrEmpty where there is none, with points or without.
func TestNext(t *testing.T) {
	wantNext(t, early(), event(whole(2), 0, 0, 1), api.OK)
	wantNext(t, late(), api.Event{}, api.ErrEmpty)
	for _, f := range []api.Field{{}, points(pt(3, 0, 0)), standing(2), standing(64), points(pt(1, 5, 5), pt(2, 5, 5), pt(3, 4, 4))} {
		wantNext(t, build(t, f, whole(0)), api.Event{}, api.ErrEmpty)
	}
	// Of several events at one time the one with the least number comes first.
	k := build(t, level(64), whole(0))
	wantNext(t, k, event(whole(1), 0, 0, 1), api.OK)
	k = api.KHeap{Clock: clockOf(whole(0), moving(), over(2, 5), over(2, 1)), Heap: numbers(2, 1, 5)}
	wantNext(t, k, event(whole(2), 1, 1, 1), api.OK)
}

// P13.1: Edges, Leader and Next, against the definitions, and the leader against layer 3.
func TestTellByDefinition(t *testing.T) {
	m := mixer(136)
	list := goodHeaps()
	for i := range 1500 {
		list = append(list, m.kheap(1+i%15))
	}
	some, none := 0, 0
	for _, k := range list {
		id, e := leader(k)
		wantLeader(t, k, id, e)
		if other, g := field.Leader(k.Clock.Field, k.Clock.Now); other != id || g != e {
			t.Fatal(k, other, g)
		}
		wantEdges(t, k, edgesOf(k.Heap), api.OK)
		y, e := first(k)
		wantNext(t, k, y, e)
		if e == api.OK {
			some++
		} else {
			none++
		}
	}
	if some < 500 || none < 100 {
		t.Error("seen only", some, none)
	}
}

// P13.1: Edges, Leader and Next of heaps that are not valid, also of those that have a leader, edges and events.
func TestTellBad(t *testing.T) {
	for _, list := range badHeaps() {
		for _, k := range list {
			wantEdges(t, k, nil, api.ErrBad)
			wantLeader(t, k, 0, api.ErrBad)
			wantNext(t, k, api.Event{}, api.ErrBad)
		}
	}
}
