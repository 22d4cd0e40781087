package kheap_test

import (
	"slices"
	"testing"

	"peloton/api"
	"peloton/clock"
	"peloton/kheap"
)

func wantBuild(t *testing.T, f api.Field, at api.Ratio, want api.KHeap, e api.Errno) {
	t.Helper()
	if k, g := kheap.Build(f, at); !same(k, want) || g != e {
		t.Fatal("build", f, at, k, g, want, e)
	}
}

func wantCheck(t *testing.T, k api.KHeap, e api.Errno) {
	t.Helper()
	if g := kheap.Check(k); g != e {
		t.Fatal("check", k, g, e)
	}
}

// P13.1: the heap of the example, as all of it is.
func TestBuildExample(t *testing.T) {
	wantBuild(t, moving(), whole(0), early(), api.OK)
}

// P13.1: the IDs come one after the other, and each one rises as far as it goes; the ones below stay as they are.
func TestBuildOrder(t *testing.T) {
	for _, x := range []struct {
		f    api.Field
		at   api.Ratio
		heap []int
	}{
		{api.Field{}, whole(7), nil}, {points(pt(9, 4, -4)), whole(7), numbers(9)},
		{moving(), whole(0), numbers(2, 1, 5)}, {moving(), whole(-1), numbers(2, 1, 5)}, {moving(), frac(2*fine-1, fine), numbers(2, 1, 5)}, {moving(), whole(2), numbers(1, 2, 5)}, {moving(), whole(9), numbers(1, 2, 5)},
		// The one that comes last goes up to the first place, and all on its way go down.
		{level(4), whole(0), numbers(3, 2, 1, 0)}, {level(7), whole(0), numbers(6, 3, 5, 0, 2, 1, 4)}, {level(8), whole(0), numbers(7, 6, 5, 3, 2, 1, 4, 0)},
		// From 1 on nobody rises, also where all are at one place.
		{level(7), whole(1), numbers(0, 1, 2, 3, 4, 5, 6)}, {standing(7), whole(3), numbers(0, 1, 2, 3, 4, 5, 6)},
		// At one place with the same speed the one with the lesser ID stays ahead.
		{points(pt(2, 1, 1), pt(4, 1, 1), pt(6, 1, 1), pt(8, 2, 0)), whole(1), numbers(2, 4, 6, 8)}, {points(pt(2, 1, 1), pt(4, 1, 1), pt(6, 1, 1), pt(8, 2, 0)), frac(1, 2), numbers(8, 2, 6, 4)},
		// It rises by one place alone.
		{points(pt(0, 9, 0), pt(1, 5, 0), pt(2, 4, 0), pt(3, 7, 0), pt(4, 6, 0), pt(5, 8, 0)), whole(0), numbers(0, 3, 5, 1, 4, 2)},
	} {
		k := build(t, x.f, x.at)
		if !slices.Equal(k.Heap, x.heap) || !slices.Equal(certsOf(k.Clock), edgesOf(x.heap)) || k.Clock.Now != x.at {
			t.Error(x, k)
		}
		wantCheck(t, k, api.OK)
	}
}

// P13.1: the certificates are those of the edges, with the numbers from 0 on in the order of the places, and the clock is that of layer 9.
func TestBuildClock(t *testing.T) {
	for _, f := range fields() {
		for _, at := range times() {
			k := build(t, f, at)
			if !sameClock(k.Clock, clockOf(at, f, edgesOf(k.Heap)...)) {
				t.Fatal(f, at, k)
			}
			for i, h := range k.Clock.Certs.List {
				if h.Number != i || h.Cert != over(k.Heap[above(i+1)], k.Heap[i+1]) {
					t.Fatal(f, at, k)
				}
			}
			if n := max(0, len(f.Points)-1); len(k.Clock.Certs.List) != n || k.Clock.Certs.Next != n {
				t.Fatal(f, at, k)
			}
		}
	}
}

// P13.1: Build, against the definition, of fields and times at all ends, of no points, of one, and of 64.
func TestBuildByDefinition(t *testing.T) {
	for _, f := range fields() {
		for _, at := range times() {
			want, e := made(f, at)
			wantBuild(t, f, at, want, e)
		}
	}
	m := mixer(133)
	for i := range 1500 {
		f := m.field(i % 20)
		switch {
		case i%100 == 0:
			f = m.field(64)
		case i%3 == 0:
			f = m.rendezvous(i % 20)
		}
		at := m.time(f)
		want, e := made(f, at)
		wantBuild(t, f, at, want, e)
		wantCheck(t, want, api.OK)
	}
}

// P13.1: the error of the field comes first, and then that of the time.
func TestBuildErrors(t *testing.T) {
	for e, list := range badFields() {
		for _, f := range list {
			for _, at := range slices.Concat(badTimes(), times()) {
				wantBuild(t, f, at, api.KHeap{}, e)
			}
		}
	}
	for _, f := range fields() {
		for _, at := range badTimes() {
			wantBuild(t, f, at, api.KHeap{}, api.ErrBad)
		}
	}
}

// P13.1: a field may have 64 points, and not 65.
func TestBuildMost(t *testing.T) {
	for _, way := range []func(n int) api.Field{level, crowd, standing} {
		k := build(t, way(64), whole(0))
		if len(k.Heap) != 64 || len(k.Clock.Certs.List) != 63 || clock.Check(k.Clock) != api.OK {
			t.Error(k)
		}
		wantBuild(t, way(65), whole(0), api.KHeap{}, api.ErrMany)
	}
}
