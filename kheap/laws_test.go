package kheap_test

import (
	"cmp"
	"slices"
	"testing"

	"peloton/api"
	"peloton/clock"
	"peloton/crest"
	"peloton/field"
	"peloton/kheap"
	"peloton/meet"
)

// wantHeap fails unless a heap is valid at a time, nobody is ahead of its parent, and the first point leads.
func wantHeap(t *testing.T, k api.KHeap, now api.Ratio) {
	t.Helper()
	if k.Clock.Now != now || kheap.Check(k) != api.OK || !isValid(k) {
		t.Fatal("not valid", k, now)
	}
	f := k.Clock.Field
	for i, id := range k.Heap {
		if i > 0 && holds(f, over(id, k.Heap[above(i)]), now) {
			t.Fatal("ahead of its parent", k, now, id)
		}
	}
	id, e := kheap.Leader(k)
	wantLeader(t, k, id, e)
	if first, g := field.Leader(f, now); id != first || e != g {
		t.Fatal("another one leads", k, now, id, e, first, g)
	}
}

// steps are times from Now on, in order: those of meetings, around them, and others.
func (m *mixer) steps(k api.KHeap, n int) []api.Ratio {
	var list []api.Ratio
	for range n {
		list = append(list, m.later(k.Clock.Field, k.Clock.Now))
	}
	slices.SortFunc(list, compare)
	return list
}

// P13.4: after each advance it is a heap of that time, and the first point leads.
func TestHeapOfItsTime(t *testing.T) {
	m := mixer(141)
	events := 0
	for i := range 500 {
		k := m.kheap(1 + i%16)
		if i%60 == 0 {
			k = m.kheap(64)
		}
		wantHeap(t, k, k.Clock.Now)
		for _, to := range m.steps(k, 5) {
			r, list := advance(t, k, to)
			wantHeap(t, r, to)
			if !slices.Equal(r.Clock.Field.Points, k.Clock.Field.Points) || len(r.Clock.Certs.List) != len(k.Clock.Certs.List) {
				t.Fatal(k, to, r)
			}
			k = r
			events += len(list)
		}
	}
	enough(t, events)
}

// P13.4: along all meetings the first points are the crest of the field, which layer 5 tells without moving.
func TestFirstPointsAreTheCrest(t *testing.T) {
	m := mixer(142)
	seen := 0
	for i := range 250 {
		k := m.kheap(2 + i%12)
		all, e := crest.Of(k.Clock.Field, k.Clock.Now)
		if e != api.OK {
			t.Fatal(k, e)
		}
		var leads []api.Lead
		for _, to := range append([]api.Ratio{k.Clock.Now}, after(k)...) {
			k, _ = advance(t, k, to)
			id, e := kheap.Leader(k)
			if e != api.OK {
				t.Fatal(k, e)
			}
			if n := len(leads); n == 0 || leads[n-1].ID != id {
				leads = append(leads, api.Lead{From: to, ID: id})
			}
		}
		if !slices.Equal(leads, all) {
			t.Fatal(k, leads, all)
		}
		seen += len(leads)
	}
	if seen < 300 {
		t.Error("seen only", seen)
	}
}

// after are the times of all meetings behind Now, in order, each one once.
func after(k api.KHeap) []api.Ratio {
	list := slices.DeleteFunc(meetings(k.Clock.Field), func(at api.Ratio) bool { return compare(at, k.Clock.Now) <= 0 })
	slices.SortFunc(list, compare)
	return slices.Compact(list)
}

// P13.4: an advance in two parts, or in more of them, is an advance.
func TestAdvanceInParts(t *testing.T) {
	m := mixer(143)
	events := 0
	for i := range 400 {
		k := m.kheap(2 + i%14)
		if i%60 == 0 {
			k = m.kheap(64)
		}
		steps := m.steps(k, m.pick(2, 2, 2, 6))
		one, all := advance(t, k, steps[len(steps)-1])
		var list []api.Cert
		parts := k
		for _, to := range steps {
			r, failed := advance(t, parts, to)
			parts, list = r, append(list, failed...)
		}
		if !same(one, parts) || !slices.Equal(all, list) {
			t.Fatal(k, steps, one, parts, all, list)
		}
		events += len(all)
	}
	enough(t, events)
}

// distinct is a field of n points of which no two have both the same place and the same speed.
func (m *mixer) distinct(n int) api.Field {
	f := m.field(n)
	if m.below(2) == 0 {
		f = m.rendezvous(n)
	}
	seen := map[api.Point]bool{}
	f.Points = slices.DeleteFunc(f.Points, func(p api.Point) bool {
		way := pt(0, p.A, p.B)
		was := seen[way]
		seen[way] = true
		return was
	})
	return f
}

// wantMeetings fails unless each pair that failed in an advance met behind the time before, up to the new one.
func wantMeetings(t *testing.T, k api.KHeap, to api.Ratio, failed []api.Cert) {
	t.Helper()
	all, e := meet.All(k.Clock.Field, k.Clock.Now, to)
	if e != api.OK {
		t.Fatal(k, to, e)
	}
	for _, x := range failed {
		if !slices.ContainsFunc(all, func(y api.Meeting) bool { return y.I == min(x.Low, x.High) && y.J == max(x.Low, x.High) }) {
			t.Fatal("no meeting", k, to, x, all)
		}
	}
}

// P13.4: without two points of the same way each pair that fails meets behind the time before, and up to the new one.
func TestWhatFailsMeets(t *testing.T) {
	m := mixer(144)
	events := 0
	for i := range 600 {
		f := m.distinct(2 + i%14)
		if i%60 == 0 {
			f = m.distinct(64)
		}
		k := m.kheapOf(m.time(f), f)
		for _, to := range m.steps(k, 3) {
			r, failed := advance(t, k, to)
			wantMeetings(t, k, to, failed)
			k = r
			events += len(failed)
		}
	}
	enough(t, events)
}

// P13.4: if the times of all meetings between are different, too, no pair fails twice, and there are at most as many events as meetings.
func TestNoneFailsTwice(t *testing.T) {
	m := mixer(145)
	events, less := 0, 0
	for i := range 900 {
		f := m.fieldWithin(2+i%14, m.pick(40, 1000, coord))
		if i%100 == 0 {
			f = m.fieldWithin(40, coord)
		}
		k := m.kheapOf(ratio(m.number(9), int64(1+m.below(3))), f)
		to := m.later(f, k.Clock.Now)
		all, e := meet.All(f, k.Clock.Now, to)
		if e != api.OK {
			t.Fatal(e)
		}
		if slices.ContainsFunc(all, func(x api.Meeting) bool { return among(all, x.At) > 1 }) {
			continue
		}
		_, failed := advance(t, k, to)
		if len(failed) > len(all) || repeated(failed) {
			t.Fatal(k, to, failed, all)
		}
		wantMeetings(t, k, to, failed)
		events += len(failed)
		if len(failed) < len(all) {
			less++
		}
	}
	enough(t, events)
	if less < 100 {
		t.Error("seen only", less)
	}
}

// among is how many meetings are at a time.
func among(all []api.Meeting, at api.Ratio) int {
	n := 0
	for _, x := range all {
		if x.At == at {
			n++
		}
	}
	return n
}

// repeated reports whether a pair failed twice, in whatever order its points stood.
func repeated(failed []api.Cert) bool {
	list := make([]api.Cert, len(failed))
	for i, x := range failed {
		list[i] = over(max(x.Low, x.High), min(x.Low, x.High))
	}
	return len(slices.Compact(order(list))) < len(failed)
}

// P13.4: where five points meet at once a pair may fail again, and the heap is right behind it all the same; with fewer points none does.
func TestFiveAtOnce(t *testing.T) {
	m := mixer(146)
	again := map[int]int{}
	for i := range 1200 {
		n := 2 + i%7
		f := level(n)
		ids := mixed(&m, idsOf(f))
		for i := range f.Points {
			f.Points[i].ID = 3*ids[i] + 1
		}
		slices.SortFunc(f.Points, func(p, q api.Point) int { return cmp.Compare(p.ID, q.ID) })
		k := m.kheapOf(whole(0), f)
		r, failed := advance(t, k, whole(1))
		wantHeap(t, r, whole(1))
		wantMeetings(t, k, whole(1), failed)
		if repeated(failed) {
			again[n]++
		}
	}
	if again[2]+again[3]+again[4] > 0 || again[5]+again[6]+again[7]+again[8] == 0 {
		t.Error(again)
	}
}

// P13.4: two points of the same way may fail, which never meet; so the heap is right all the same.
func TestSameWays(t *testing.T) {
	m := mixer(147)
	never := 0
	for i := range 600 {
		f := many(2+i%12, 3, func(int64) (a, b int64) { return m.number(1), m.number(1) })
		k := m.kheapOf(whole(-2), f)
		to := whole(3)
		r, failed := advance(t, k, to)
		wantHeap(t, r, to)
		for _, x := range failed {
			p, _ := point(f, x.High)
			if q, _ := point(f, x.Low); p.B == q.B {
				never++
			}
		}
	}
	if never < 30 {
		t.Error("seen only", never)
	}
}

// P13.3 and P13.4: the events of an advance are those that Next tells one after the other, each one at its time.
func TestOneEventAfterTheOther(t *testing.T) {
	m := mixer(148)
	events := 0
	for i := range 300 {
		k := m.kheap(2 + i%14)
		_, all := advance(t, k, whole(most))
		var list []api.Cert
		for {
			y, e := kheap.Next(k)
			if e != api.OK {
				break
			}
			r, failed := advance(t, k, y.At)
			if len(failed) == 0 || r.Clock.Now != y.At || !slices.Contains(k.Clock.Certs.List, api.Held{Number: y.Number, Cert: failed[0]}) {
				t.Fatal(k, y, r, failed)
			}
			k, list = r, append(list, failed...)
		}
		if !slices.Equal(all, list) {
			t.Fatal(k, all, list)
		}
		events += len(all)
	}
	enough(t, events)
}

// P13.2 and P13.3: a heap whose clock is renewed for its edges is as it was, and one whose field is changed where nobody passes another one is a heap of the new field.
func TestRenewedHeaps(t *testing.T) {
	m := mixer(149)
	seen := 0
	for i := range 500 {
		k := m.kheap(2 + i%14)
		f := m.other(k.Clock.Field, 1)
		c := renew(t, k.Clock, f, edgesOf(k.Heap)...)
		fits := !slices.ContainsFunc(edgesOf(k.Heap), func(x api.Cert) bool { return !holds(f, x, c.Now) })
		if e := kheap.Check(clocked(k, c)); (e == api.OK) != fits || clock.Check(c) != api.OK {
			t.Fatal(k, f, c, e)
		}
		if fits {
			r, _ := advance(t, clocked(k, c), whole(most))
			wantHeap(t, r, whole(most))
			seen++
		}
	}
	if seen < 50 {
		t.Error("seen only", seen)
	}
}

// The examples of the chapter.
func TestExamples(t *testing.T) {
	k, e := kheap.Build(moving(), whole(0))
	if e != api.OK || !slices.Equal(k.Heap, numbers(2, 1, 5)) {
		t.Error(k, e)
	}
	wantLeader(t, k, 2, api.OK)
	k, failed, e := kheap.Advance(k, whole(2))
	if e != api.OK || !slices.Equal(k.Heap, numbers(1, 2, 5)) || !slices.Equal(failed, []api.Cert{{Low: 1, High: 2}}) {
		t.Error(k, failed, e)
	}
	wantLeader(t, k, 1, api.OK)
	k, failed, e = kheap.Advance(k, whole(6))
	if e != api.OK || !slices.Equal(k.Heap, numbers(1, 2, 5)) || len(failed) != 0 {
		t.Error(k, failed, e)
	}
	// 5 passes 2 at 6, and both are below 1.
	if id, e := field.Rank(k.Clock.Field, 5, whole(6)); id != 1 || e != api.OK {
		t.Error(id, e)
	}
}
