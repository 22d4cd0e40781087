package kheap_test

import (
	"slices"
	"testing"

	"peloton/api"
	"peloton/clock"
)

// P13.1: Check of heaps that are valid.
func TestCheckValid(t *testing.T) {
	for _, k := range goodHeaps() {
		if !isValid(k) {
			t.Error(k)
		}
		wantCheck(t, k, api.OK)
	}
}

// P13.1: Check of heaps that are not valid, in each way.
func TestCheckBad(t *testing.T) {
	for reason, list := range badHeaps() {
		if len(list) < 5 {
			t.Error(reason, "has only", len(list))
		}
		for _, k := range list {
			if isValid(k) {
				t.Error(reason, k)
			}
			wantCheck(t, k, api.ErrBad)
		}
	}
}

// What is wrong with a heap but for its clock is alone: the clock is valid.
func TestClocksAreValid(t *testing.T) {
	for _, list := range [][]api.KHeap{lacking(), doubled(), strange(), upset(), unlike()["an edge that is no certificate"], unlike()["a certificate that is no edge"], unlike()["other certificates than edges"]} {
		for _, k := range list {
			if e := clock.Check(k.Clock); e != api.OK {
				t.Fatal(k, e)
			}
		}
	}
	for reason, list := range badClocks() {
		for _, k := range list {
			if e := clock.Check(k.Clock); e != api.ErrBad {
				t.Fatal(reason, k, e)
			}
		}
	}
}

// P13.1: each heap in which nobody is ahead of its parent is valid, not only the one that is built, and its certificates may have any numbers and slots.
func TestCheckAnyHeap(t *testing.T) {
	wantCheck(t, heapOf(whole(0), moving(), 2, 1, 5), api.OK)
	wantCheck(t, heapOf(whole(0), moving(), 2, 5, 1), api.OK)
	for _, list := range [][]api.Cert{certs(over(2, 1), over(2, 5)), certs(over(2, 5), over(2, 1))} {
		for _, heap := range [][]int{{2, 1, 5}, {2, 5, 1}} {
			wantCheck(t, api.KHeap{Clock: clockOf(whole(0), moving(), list...), Heap: heap}, api.OK)
		}
	}
	m := mixer(134)
	others := 0
	for i := range 1500 {
		k := m.kheap(1 + i%12)
		if i%100 == 0 {
			k = m.kheap(64)
		}
		wantCheck(t, k, api.OK)
		if built, _ := made(k.Clock.Field, k.Clock.Now); !slices.Equal(built.Heap, k.Heap) {
			others++
		}
	}
	if others < 500 {
		t.Error("seen only", others)
	}
}

// P13.1: at its time a certificate holds that has an event later, and none that has one now; at a meeting the faster one is ahead.
func TestCheckNow(t *testing.T) {
	for _, x := range []struct {
		now          api.Ratio
		early, later api.Errno
	}{
		{whole(-most), api.OK, api.ErrBad}, {whole(0), api.OK, api.ErrBad}, {whole(1), api.OK, api.ErrBad}, {frac(2*fine-1, fine), api.OK, api.ErrBad},
		{whole(2), api.ErrBad, api.OK}, {frac(2*fine+1, fine), api.ErrBad, api.OK}, {whole(6), api.ErrBad, api.OK}, {whole(most), api.ErrBad, api.OK},
	} {
		wantCheck(t, heapOf(x.now, moving(), 2, 1, 5), x.early)
		wantCheck(t, heapOf(x.now, moving(), 1, 2, 5), x.later)
	}
	// Where 5 is ahead of 2, from 6 on, is not asked for below 1.
	wantCheck(t, heapOf(whole(7), moving(), 1, 5, 2), api.OK)
	// 1 is ahead of 5 from 0 on.
	four := points(pt(1, 0, 2), pt(2, 6, -1), pt(5, 0, 0), pt(9, 9, 0))
	wantCheck(t, heapOf(whole(-1), four, 9, 2, 5, 1), api.OK)
	wantCheck(t, heapOf(whole(-1), four, 9, 1, 2, 5), api.ErrBad)
	wantCheck(t, heapOf(whole(0), four, 9, 1, 2, 5), api.OK)
}

// P13.1: Check, against the definition.
func TestCheckByDefinition(t *testing.T) {
	m := mixer(135)
	good, bad := 0, 0
	for i := range 6000 {
		k := m.spoiled(1 + i%8)
		want := api.OK
		if !isValid(k) {
			want = api.ErrBad
			bad++
		} else {
			good++
		}
		wantCheck(t, k, want)
	}
	if good < 300 {
		t.Error("seen only", good)
	}
	enough(t, bad)
}

// smallHeaps are all heaps of up to three places with the IDs 0 to 2.
func smallHeaps() [][]int {
	list := [][]int{{}}
	for range 3 {
		for _, heap := range slices.Clone(list) {
			for id := range 3 {
				list = append(list, append(slices.Clone(heap), id))
			}
		}
	}
	return list
}

// P13.1: all small heaps, with all small sets of certificates, at a few times.
func TestCheckAllSmall(t *testing.T) {
	pairs := certs(over(0, 1), over(1, 0), over(0, 2), over(2, 0), over(1, 2), over(2, 1))
	good, bad := 0, 0
	for _, f := range []api.Field{points(pt(0, 0, 1), pt(1, 0, 0), pt(2, 0, -1)), points(pt(0, 0, 0), pt(2, 0, 1)), points(pt(1, 0, 1), pt(2, 1, 0)), points(pt(0, 0, 0)), {}} {
		for _, now := range []api.Ratio{whole(-1), whole(0), whole(1)} {
			for set := range 64 {
				var list []api.Cert
				for i, x := range pairs {
					if set>>i&1 == 1 {
						list = append(list, x)
					}
				}
				if !hasAll(f, list) {
					continue
				}
				c := clockOf(now, f, list...)
				for _, heap := range smallHeaps() {
					k := api.KHeap{Clock: c, Heap: heap}
					if isValid(k) {
						good++
						wantCheck(t, k, api.OK)
					} else {
						bad++
						wantCheck(t, k, api.ErrBad)
					}
				}
			}
		}
	}
	if good < 15 {
		t.Error("seen only", good)
	}
	enough(t, bad)
}
