package kheap_test

import (
	"slices"
	"testing"

	"peloton/api"
	"peloton/kheap"
)

func wantAdvance(t *testing.T, k api.KHeap, to api.Ratio, want api.KHeap, failed []api.Cert, e api.Errno) {
	t.Helper()
	if r, list, g := kheap.Advance(k, to); !same(r, want) || !slices.Equal(list, failed) || g != e {
		t.Fatal("advance", k, to, r, list, g, want, failed, e)
	}
}

func wantNoAdvance(t *testing.T, k api.KHeap, to api.Ratio, e api.Errno) {
	t.Helper()
	wantAdvance(t, k, to, api.KHeap{}, nil, e)
}

// at is a heap with another Now, of which all else is the same.
func at(k api.KHeap, now api.Ratio) api.KHeap {
	return with(k, func(k *api.KHeap) { k.Clock.Now = now })
}

// P13.3: the heap of the example: to Now, to just before the event, to its time, to just behind it, and past it.
func TestAdvanceExample(t *testing.T) {
	wantAdvance(t, early(), whole(0), early(), nil, api.OK)
	for _, to := range []api.Ratio{frac(1, most), whole(1), frac(2*fine-1, fine)} {
		wantAdvance(t, early(), to, at(early(), to), nil, api.OK)
	}
	wantAdvance(t, early(), whole(2), late(), certs(over(2, 1)), api.OK)
	for _, to := range []api.Ratio{frac(2*fine+1, fine), whole(6), whole(7), whole(most)} {
		wantAdvance(t, early(), to, at(late(), to), certs(over(2, 1)), api.OK)
		wantAdvance(t, late(), to, at(late(), to), nil, api.OK)
	}
	wantAdvance(t, late(), whole(2), late(), nil, api.OK)
}

// P13.3: several events one after the other: the heap and what failed, after each of them, in one advance.
func TestAdvanceSeveral(t *testing.T) {
	// 0 meets 1 at 1, 2 at 2, 3 at 3; at 0 the heap is 3, 2, 1, 0, and 2 is above 0.
	f := points(pt(0, 0, 3), pt(1, 2, 1), pt(2, 4, 1), pt(3, 6, 1))
	k := build(t, f, whole(0))
	for _, x := range []struct {
		to     api.Ratio
		heap   []int
		failed []api.Cert
		next   int
	}{
		{whole(0), numbers(3, 2, 1, 0), nil, 3}, {frac(2*fine-1, fine), numbers(3, 2, 1, 0), nil, 3},
		{whole(2), numbers(3, 0, 1, 2), certs(over(2, 0)), 5}, {frac(3*fine-1, fine), numbers(3, 0, 1, 2), certs(over(2, 0)), 5},
		{whole(3), numbers(0, 3, 1, 2), certs(over(2, 0), over(3, 0)), 8}, {whole(most), numbers(0, 3, 1, 2), certs(over(2, 0), over(3, 0)), 8},
	} {
		r, list := advance(t, k, x.to)
		if !slices.Equal(r.Heap, x.heap) || !slices.Equal(list, x.failed) || r.Clock.Now != x.to || r.Clock.Certs.Next != x.next || !isValid(r) {
			t.Error(x, r, list)
		}
	}
}

// P13.3: several events at one time: the one with the least number comes first, also where it is made at this time.
func TestAdvanceAtOnce(t *testing.T) {
	// All meet at 1.
	k := build(t, level(4), whole(0))
	r, list := advance(t, k, whole(1))
	// From 3, 2, 1, 0 on these change places: 3 and 2, 2 and 1, 3 and 0, and 1 and 0.
	if !slices.Equal(list, certs(over(3, 2), over(2, 1), over(3, 0), over(1, 0))) || !slices.Equal(r.Heap, numbers(0, 1, 2, 3)) || !isValid(r) {
		t.Error(r, list)
	}
	// Both edges fail; as the one of 0 has the lesser number, 0 comes up, and stays.
	k = api.KHeap{Clock: clockOf(whole(0), level(3), over(2, 0), over(2, 1)), Heap: numbers(2, 1, 0)}
	r, list = advance(t, k, whole(1))
	if !slices.Equal(list, certs(over(2, 0))) || !slices.Equal(r.Heap, numbers(0, 1, 2)) || !isValid(r) {
		t.Error(r, list)
	}
	k = build(t, level(3), whole(0))
	r, list = advance(t, k, whole(1))
	if !slices.Equal(k.Heap, numbers(2, 0, 1)) || !slices.Equal(list, certs(over(2, 0))) || !slices.Equal(r.Heap, numbers(0, 2, 1)) {
		t.Error(k, r, list)
	}
	// Of five points the pair 1 and 2 fails twice.
	k = api.KHeap{Clock: clockOf(whole(0), level(5), over(2, 1), over(4, 2), over(4, 3), over(2, 0)), Heap: numbers(4, 2, 3, 1, 0)}
	r, list = advance(t, k, whole(1))
	if !slices.Equal(list, certs(over(2, 1), over(4, 3), over(1, 0), over(3, 0), over(3, 2), over(2, 1))) || !slices.Equal(r.Heap, numbers(0, 1, 4, 3, 2)) || !isValid(r) {
		t.Error(r, list)
	}
}

// P13.3: points that change places with the same way below them: one that is as fast as the other one, and never meets it, is behind it, and fails at once.
func TestAdvanceSameWay(t *testing.T) {
	// 4 and 6 have the same way and overtake 2 at 1; 4 is ahead of 6 all the time.
	f := points(pt(2, 1, 0), pt(4, 0, 1), pt(6, 0, 1))
	k := api.KHeap{Clock: clockOf(whole(0), f, over(2, 6), over(2, 4)), Heap: numbers(2, 4, 6)}
	r, list := advance(t, k, whole(1))
	if !slices.Equal(list, certs(over(2, 6), over(6, 4))) || !slices.Equal(r.Heap, numbers(4, 6, 2)) || !isValid(r) {
		t.Error(r, list)
	}
}

// P13.3: up to 64 points that meet at once, or at few times; five of them and more too.
func TestAdvanceTogether(t *testing.T) {
	for _, n := range numbers(0, 1, 2, 3, 4, 5, 6, 7, 8, 9, 12, 16, 31, 64) {
		for _, f := range []api.Field{level(n), many(n, 5, func(i int64) (a, b int64) { return -(i % 5) * 7, i % 5 }), many(n, 1, func(i int64) (a, b int64) { return i * 29 % 64, -(i * 29 % 64) })} {
			k := build(t, f, whole(-9))
			for _, to := range []api.Ratio{frac(fine-1, fine), whole(1), frac(7<<40-1, 1<<40), whole(7)} {
				want, list, e := advanced(k, to)
				wantAdvance(t, k, to, want, list, e)
				if !isValid(want) {
					t.Fatal(n, f, to)
				}
			}
		}
	}
}

// P13.3: heaps without points, and with one, and of points that never change their order.
func TestAdvanceNothing(t *testing.T) {
	for _, f := range []api.Field{{}, points(pt(3, 0, 0)), points(pt(top, coord, coord)), standing(2), standing(64), many(64, 3, func(i int64) (a, b int64) { return i % 3, 8 })} {
		for _, now := range times() {
			k := build(t, f, now)
			for _, to := range times() {
				if compare(to, now) < 0 {
					wantNoAdvance(t, k, to, api.ErrPast)
				} else {
					wantAdvance(t, k, to, at(k, to), nil, api.OK)
				}
			}
		}
	}
}

// P13.3: a time that is not valid is ErrBad, and one before Now is ErrPast, also where a certificate is due.
func TestAdvanceErrors(t *testing.T) {
	for _, k := range goodHeaps() {
		for _, to := range badTimes() {
			wantNoAdvance(t, k, to, api.ErrBad)
		}
		now := k.Clock.Now
		if now.Num > least/4 && now.Den < 1<<40 && now.Num < most/4096 && now.Num > -most/4096 {
			wantNoAdvance(t, k, ratio(1024*now.Num-1, 1024*now.Den), api.ErrPast)
		}
		for _, to := range times() {
			if compare(to, now) < 0 {
				wantNoAdvance(t, k, to, api.ErrPast)
			}
		}
	}
	for _, to := range []api.Ratio{whole(-1), frac(-1, most), whole(-most)} {
		wantNoAdvance(t, early(), to, api.ErrPast)
	}
	wantNoAdvance(t, late(), frac(2*fine-1, fine), api.ErrPast)
	wantNoAdvance(t, clocked(early(), counted(early().Clock, 0)), whole(-1), api.ErrPast)
}

// P13.3: a heap that is not valid is ErrBad, to whatever time.
func TestAdvanceBad(t *testing.T) {
	for _, list := range badHeaps() {
		for i, k := range list {
			for _, to := range []api.Ratio{k.Clock.Now, whole(most), whole(-most), badTimes()[i%13]} {
				wantNoAdvance(t, k, to, api.ErrBad)
			}
		}
	}
}

// P13.3: where numbers run out on the way it is ErrFull, and before that not.
func TestAdvanceNumbers(t *testing.T) {
	// The first event needs two numbers, the second one three.
	f := points(pt(0, 0, 3), pt(1, 2, 1), pt(2, 4, 1), pt(3, 6, 1))
	for left, x := range map[int]api.Ratio{0: whole(2), 1: whole(2), 2: whole(3), 3: whole(3), 4: whole(3)} {
		k := build(t, f, whole(0))
		k.Clock = counted(k.Clock, left)
		wantNoAdvance(t, k, x, api.ErrFull)
		wantNoAdvance(t, k, whole(most), api.ErrFull)
		before := frac(x.Num*fine-1, fine)
		if r, list := advance(t, k, before); len(list) != int(x.Num-2) || r.Clock.Now != before || !isValid(r) {
			t.Error(left, r, list)
		}
	}
	k := build(t, f, whole(0))
	k.Clock = counted(k.Clock, 5)
	if r, list := advance(t, k, whole(most)); len(list) != 2 || r.Clock.Certs.Next != limit {
		t.Error(r, list)
	}
	for left := range 2 {
		wantNoAdvance(t, clocked(early(), counted(early().Clock, left)), whole(2), api.ErrFull)
	}
	wantAdvance(t, clocked(early(), counted(early().Clock, 0)), whole(1), at(clocked(early(), counted(early().Clock, 0)), whole(1)), nil, api.OK)
}

// P13.3: where no place of an event can be taken it is ErrFull: where the slot of what failed, or of what was retired, was used too often.
func TestAdvancePlaces(t *testing.T) {
	// At 2 the certificates of 2 with 0 and of 3 with 2 go, and that of 3 with 0 comes, which fails at 3.
	f := points(pt(0, 0, 3), pt(1, 2, 1), pt(2, 4, 1), pt(3, 6, 1))
	k := build(t, f, whole(0))
	worn := clocked(k, usedUp(k.Clock, 2))
	wantNoAdvance(t, worn, whole(2), api.ErrFull)
	wantNoAdvance(t, worn, whole(most), api.ErrFull)
	wantAdvance(t, worn, whole(1), at(worn, whole(1)), nil, api.OK)
	// The next free slot is not needed, as the one that was given back is taken.
	r, list := advance(t, clocked(k, blocked(k.Clock)), whole(3))
	if len(list) != 2 || !isValid(r) {
		t.Error(r, list)
	}
	// In the example the new certificates never fail.
	r, list = advance(t, clocked(early(), usedUp(early().Clock, 0)), whole(9))
	if len(list) != 1 || !slices.Equal(r.Heap, numbers(1, 2, 5)) {
		t.Error(r, list)
	}
}

// P13.3: Advance, against the definition, also where numbers or places of events are scarce.
func TestAdvanceByDefinition(t *testing.T) {
	m := mixer(139)
	seen := map[api.Errno]int{}
	events, none := 0, 0
	for i := range 1600 {
		k := m.kheap(1 + i%16)
		if i%100 == 0 {
			k = m.kheap(64)
		}
		switch m.below(8) {
		case 0:
			k = clocked(k, counted(k.Clock, m.below(20)))
		case 1:
			k = clocked(k, blocked(k.Clock))
		case 2:
			for _, d := range k.Clock.Due {
				if m.below(2) == 0 {
					k = clocked(k, usedUp(k.Clock, d.Number))
				}
			}
		}
		to := m.later(k.Clock.Field, k.Clock.Now)
		if m.below(20) == 0 {
			to = m.time(k.Clock.Field)
		}
		want, list, e := advanced(k, to)
		wantAdvance(t, k, to, want, list, e)
		seen[e]++
		events += len(list)
		if e == api.OK && len(list) == 0 {
			none++
		}
	}
	for e, n := range map[api.Errno]int{api.OK: 1000, api.ErrFull: 50, api.ErrPast: 30} {
		if seen[e] < n {
			t.Error(e, "seen only", seen[e])
		}
	}
	enough(t, events)
	if none < 100 {
		t.Error(none)
	}
}

// P13.3: an event retires and certifies just what changes: the certificates of all other edges keep their numbers and handles.
func TestAdvanceKeeps(t *testing.T) {
	m := mixer(140)
	seen := 0
	for i := range 600 {
		k := m.kheap(5 + i%30)
		y, e := kheap.Next(k)
		if e != api.OK {
			continue
		}
		r, list := advance(t, k, y.At)
		if len(list) != 1 {
			continue
		}
		stays, new := 0, 0
		for _, h := range r.Clock.Certs.List {
			if h.Number >= k.Clock.Certs.Next {
				new++
			} else if slices.Contains(k.Clock.Certs.List, h) {
				stays++
			}
		}
		if new > 5 || new+stays != len(k.Heap)-1 || r.Clock.Certs.Next != k.Clock.Certs.Next+new {
			t.Fatal(k, r, new, stays)
		}
		seen += stays
	}
	enough(t, seen)
}
