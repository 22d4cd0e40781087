package kheap_test

import (
	"slices"
	"testing"

	"peloton/api"
	"peloton/clock"
	"peloton/kheap"
)

func wantRenew(t *testing.T, c api.Clock, f api.Field, edges []api.Cert, want api.Clock, e api.Errno) {
	t.Helper()
	if r, g := kheap.Renew(c, f, edges); !sameClock(r, want) || g != e {
		t.Fatal("renew", c, f, edges, r, g, want, e)
	}
}

func wantNoRenew(t *testing.T, c api.Clock, f api.Field, edges []api.Cert, e api.Errno) {
	t.Helper()
	wantRenew(t, c, f, edges, api.Clock{}, e)
}

// trio is a clock of which the certificates 0, 1 and 3 have events, at 2, 6 and now, in the slots 0, 1 and 2, and 2 has none.
func trio() api.Clock {
	return clockOf(whole(1), moving(), over(2, 1), over(2, 5), over(1, 5), over(5, 2))
}

// P13.2: where nothing changes, the clock is as it was, whatever the order of the edges is, and whether they hold or not.
func TestRenewNothing(t *testing.T) {
	for _, k := range goodHeaps() {
		c := k.Clock
		wantRenew(t, c, c.Field, edgesOf(k.Heap), c, api.OK)
		reversed := certsOf(c)
		slices.Reverse(reversed)
		wantRenew(t, c, c.Field, reversed, c, api.OK)
	}
	c := trio()
	wantRenew(t, c, moving(), certsOf(c), c, api.OK)
	wantRenew(t, c, moving(), certs(over(5, 2), over(1, 5), over(2, 1), over(2, 5)), c, api.OK)
	for _, f := range fields() {
		wantRenew(t, clockOf(whole(1), f), f, nil, clockOf(whole(1), f), api.OK)
	}
	// No room is needed.
	wantRenew(t, counted(blocked(c), 0), moving(), certsOf(c), counted(blocked(c), 0), api.OK)
}

// P13.2: where the field alone changes, the clock is altered, and all certificates stay, with their numbers and handles.
func TestRenewField(t *testing.T) {
	for _, p := range []api.Point{pt(5, 0, 1), pt(5, 0, -1), pt(5, 0, 9), pt(5, 90, 0), pt(2, 7, -1), pt(1, 0, -7), pt(9, 0, 0)} {
		f := withPoint(moving(), p)
		c := trio()
		want, e := clock.Alter(c, f)
		if e != api.OK || sameClock(want, c) {
			t.Fatal(p, e)
		}
		wantRenew(t, c, f, certsOf(c), want, api.OK)
	}
	c := renew(t, trio(), withPoint(moving(), pt(5, 0, 1)), certsOf(trio())...)
	if y := c.Agenda.Heap; y[0] != event(whole(1), 3, 2, 1) || !slices.Contains(y, event(whole(3), 1, 1, 1)) || !slices.Contains(y, event(whole(2), 0, 0, 1)) || c.Certs.Next != 4 {
		t.Error(c)
	}
	// Points that no edge names come and go.
	f := points(pt(0, 4, 4), pt(1, 0, 2), pt(2, 6, -1), pt(9, 9, 9))
	c = clockOf(whole(1), moving(), over(2, 1))
	r := renew(t, c, f, over(2, 1))
	if !slices.Equal(r.Field.Points, f.Points) || !slices.Equal(r.Certs.List, c.Certs.List) || !sameAgenda(r.Agenda, c.Agenda) {
		t.Error(r)
	}
	wantRenew(t, r, moving(), certs(over(2, 1)), c, api.OK)
	// A point goes that is named by a certificate that is no edge.
	r = renew(t, trio(), points(pt(1, 0, 2), pt(2, 6, -1)), over(2, 1))
	if len(r.Field.Points) != 2 || !slices.Equal(r.Certs.List, []api.Held{held(0, 2, 1)}) || r.Certs.Next != 4 || len(r.Due) != 1 {
		t.Error(r)
	}
	r = renew(t, trio(), api.Field{})
	if len(r.Field.Points)+len(r.Certs.List)+len(r.Due) != 0 || r.Now != whole(1) || r.Certs.Next != 4 {
		t.Error(r)
	}
}

// P13.2: certificates that are no edges are retired, in the order of numbers, so the slot of the last one is the next to be taken.
func TestRenewRetires(t *testing.T) {
	r := renew(t, trio(), moving(), over(1, 5))
	if !slices.Equal(r.Certs.List, []api.Held{held(2, 1, 5)}) || len(r.Agenda.Heap)+len(r.Due) != 0 || r.Certs.Next != 4 {
		t.Error(r)
	}
	if free := r.Agenda.Slots.Free; len(free) != slots || !slices.Equal(free[197:], numbers(0, 1, 2)) {
		t.Error(r)
	}
	r = renew(t, trio(), moving(), over(2, 5), over(1, 5))
	if free := r.Agenda.Slots.Free; !slices.Equal(r.Certs.List, []api.Held{held(1, 2, 5), held(2, 1, 5)}) || !slices.Equal(free[197:], numbers(0, 2)) {
		t.Error(r)
	}
	r = renew(t, trio(), moving())
	if len(r.Certs.List)+len(r.Due)+len(r.Agenda.Heap) != 0 || r.Certs.Next != 4 {
		t.Error(r)
	}
	// A certificate with Low and High exchanged is another one.
	r = renew(t, trio(), moving(), over(5, 1))
	if !slices.Equal(r.Certs.List, []api.Held{held(4, 5, 1)}) {
		t.Error(r)
	}
}

// P13.2: edges that are no certificates are certified, in their order, behind those that stay.
func TestRenewCertifies(t *testing.T) {
	c := clockOf(whole(1), moving())
	r := renew(t, c, moving(), over(2, 5), over(1, 5), over(2, 1))
	if !sameClock(r, clockOf(whole(1), moving(), over(2, 5), over(1, 5), over(2, 1))) {
		t.Error(r)
	}
	r = renew(t, trio(), moving(), over(1, 2), over(2, 5), over(5, 1), over(2, 1), over(1, 5))
	if !slices.Equal(r.Certs.List, []api.Held{held(0, 2, 1), held(1, 2, 5), held(2, 1, 5), held(4, 1, 2), held(5, 5, 1)}) || r.Certs.Next != 6 {
		t.Error(r)
	}
	// Both fail now; the slot of the number 3, which was retired, is taken first, and then one that was never used.
	for _, y := range []api.Event{event(whole(1), 4, 2, 2), event(whole(1), 5, 3, 1)} {
		if !slices.Contains(r.Agenda.Heap, y) {
			t.Error(r, y)
		}
	}
}

// P13.2: first all are retired, then the field is another one, and then all others are certified.
func TestRenewInOrder(t *testing.T) {
	f := withPoint(moving(), pt(5, 0, 3))
	// "1 is ahead of 5" stays and fails now: it gets the slot of the one that was retired before. Of the new ones "5 is ahead of 1" never fails, and "2 is ahead of 5" fails at 3/2.
	c := clockOf(frac(1, 2), moving(), over(1, 5), over(2, 1))
	r := renew(t, c, f, over(5, 1), over(1, 5), over(2, 5))
	if !slices.Equal(r.Certs.List, []api.Held{held(0, 1, 5), held(2, 5, 1), held(3, 2, 5)}) {
		t.Error(r)
	}
	if !slices.Equal(r.Agenda.Heap, []api.Event{event(frac(1, 2), 0, 0, 2), event(frac(3, 2), 3, 1, 1)}) {
		t.Error(r)
	}
	// A new certificate is certified for the new field alone: for the old one it would have failed now, and taken a slot.
	r = renew(t, clockOf(whole(1), moving()), points(pt(1, 0, 2), pt(2, 6, -1), pt(5, 9, 2)), over(5, 2))
	if len(r.Due) != 0 || r.Agenda.Slots.Uses[0] != 0 {
		t.Error(r)
	}
	// One that goes is not altered: for the new field it would have had an event.
	r = renew(t, clockOf(whole(1), moving(), over(1, 5)), f)
	if r.Agenda.Slots.Uses[0] != 0 || !slices.Equal(r.Field.Points, f.Points) {
		t.Error(r)
	}
}

// P13.2: the error of the clock comes first, and then that of the field.
func TestRenewBadClocks(t *testing.T) {
	for _, list := range badClocks() {
		for i, k := range list {
			wantNoRenew(t, k.Clock, k.Clock.Field, edgesOf(k.Heap), api.ErrBad)
			wantNoRenew(t, k.Clock, level(65), certs(badCerts()[i%40]), api.ErrBad)
			wantNoRenew(t, k.Clock, points(pt(2, 0, 0), pt(1, 0, 0)), certs(over(1, 2), over(1, 2)), api.ErrBad)
			wantNoRenew(t, k.Clock, api.Field{}, certs(over(1, 2)), api.ErrBad)
		}
	}
	for e, list := range badFields() {
		for i, f := range list {
			for _, c := range []api.Clock{trio(), clockOf(whole(1), api.Field{}), counted(trio(), 0)} {
				for _, edges := range [][]api.Cert{nil, certsOf(c), certs(over(1, 2)), certs(over(1, 2), over(1, 2)), certs(over(7, 8)), certs(badCerts()[i%40])} {
					wantNoRenew(t, c, f, edges, e)
				}
			}
		}
	}
}

// P13.2: an edge that is not valid is ErrBad, wherever it stands, also behind one that is there twice, and one of which a point is not there.
func TestRenewBadEdges(t *testing.T) {
	for _, x := range badCerts() {
		for _, edges := range [][]api.Cert{certs(x), certs(x, over(2, 1)), certs(over(2, 1), x, over(2, 5)), certs(over(2, 1), over(2, 1), x), certs(over(2, 7), x), certs(x, x), certs(x, over(7, 8), over(7, 8))} {
			for _, c := range []api.Clock{trio(), clockOf(whole(1), moving()), clockOf(whole(1), api.Field{}), counted(trio(), 0)} {
				wantNoRenew(t, c, moving(), edges, api.ErrBad)
				wantNoRenew(t, c, api.Field{}, edges, api.ErrBad)
			}
		}
	}
	// IDs at both ends are right.
	f := points(pt(0, 0, 0), pt(top, 0, 1))
	wantRenew(t, clockOf(whole(1), f), f, certs(over(0, top), over(top, 0)), clockOf(whole(1), f, over(0, top), over(top, 0)), api.OK)
}

// P13.2: an edge that is there twice is ErrTwice, whether the clock has it or not, also where a point is not there; one with Low and High exchanged is another one.
func TestRenewTwice(t *testing.T) {
	for _, edges := range [][]api.Cert{
		certs(over(2, 1), over(2, 1)), certs(over(2, 1), over(1, 2), over(2, 5), over(1, 2)), certs(over(1, 5), over(5, 1), over(2, 1), over(2, 5), over(5, 1)),
		certs(over(7, 8), over(2, 1), over(2, 1)), certs(over(2, 7), over(2, 7)), certs(over(2, 1), over(2, 1), over(2, 1)), slices.Repeat(certs(over(0, top)), 5000),
	} {
		for _, c := range []api.Clock{trio(), clockOf(whole(1), moving()), counted(trio(), 0), blocked(trio())} {
			wantNoRenew(t, c, moving(), edges, api.ErrTwice)
			wantNoRenew(t, c, points(pt(1, 0, 0)), edges, api.ErrTwice)
		}
	}
	wantRenew(t, clockOf(whole(1), moving()), moving(), certs(over(2, 1), over(1, 2)), clockOf(whole(1), moving(), over(2, 1), over(1, 2)), api.OK)
}

// P13.2: an edge of which a point is not in the new field is ErrNone, also where the old one has it, and where there is no room.
func TestRenewNone(t *testing.T) {
	for _, id := range []int{0, 3, 4, 6, 700, top} {
		for _, c := range []api.Clock{trio(), clockOf(whole(1), moving()), counted(trio(), 0), blocked(trio()), clockOf(whole(1), standing(64)), clockOf(whole(1), points(pt(id, 0, 0)))} {
			for _, edges := range [][]api.Cert{certs(over(1, id)), certs(over(id, 1)), certs(over(2, 1), over(2, 5), over(id, 5)), certs(over(1, 2), over(5, id), over(2, 1))} {
				wantNoRenew(t, c, moving(), edges, api.ErrNone)
			}
		}
	}
	for _, id := range []int{1, 2, 5} {
		wantNoRenew(t, trio(), without(moving(), id), certsOf(trio()), api.ErrNone)
	}
	wantNoRenew(t, trio(), api.Field{}, certs(over(2, 1)), api.ErrNone)
	// More edges than there may be certificates, of which only the last one is of another point.
	f := standing(64)
	many := append(pairsOf(f, 300), over(64, 0))
	wantNoRenew(t, clockOf(whole(0), f), f, many, api.ErrNone)
}

// pairsOf are the first n pairs of a field, as certificates.
func pairsOf(f api.Field, n int) []api.Cert {
	var list []api.Cert
	for i, p := range f.Points {
		for _, q := range f.Points[:i] {
			if len(list) < n {
				list = append(list, over(p.ID, q.ID))
			}
		}
	}
	return list
}

// P13.2: more edges than there may be certificates, or than there are numbers, are ErrFull; what is retired makes room for certificates, and not for numbers.
func TestRenewFull(t *testing.T) {
	f := crowd(64)
	all := pairsOf(f, 400)
	c := clockOf(whole(0), f, all[:200]...)
	wantRenew(t, clockOf(whole(0), f), f, all[:200], c, api.OK)
	wantNoRenew(t, clockOf(whole(0), f), f, all[:201], api.ErrFull)
	wantNoRenew(t, c, f, all[:201], api.ErrFull)
	wantNoRenew(t, c, f, all, api.ErrFull)
	r := renew(t, c, f, all[200:]...)
	if !slices.Equal(certsOf(r), all[200:]) || r.Certs.Next != 400 || r.Certs.List[0].Number != 200 {
		t.Error(r)
	}
	for left := range 4 {
		c := counted(clockOf(whole(0), f, all[:3]...), left)
		for n := range 6 {
			want, e := renewed(c, f, all[2:3+n])
			wantRenew(t, c, f, all[2:3+n], want, e)
			if (e == api.OK) != (n <= left) {
				t.Error(left, n, e)
			}
		}
	}
}

// P13.2: a certificate that fails is ErrFull where no slot can be taken, when it is certified and when the clock is altered; a slot that is given back before is taken instead.
func TestRenewNoRoom(t *testing.T) {
	c := blocked(trio())
	wantNoRenew(t, c, moving(), append(certsOf(c), over(1, 2)), api.ErrFull)
	wantNoRenew(t, c, moving(), append(certsOf(c), over(5, 1)), api.ErrFull)
	r := renew(t, c, moving(), over(2, 1), over(2, 5), over(1, 5), over(1, 2))
	if !slices.Contains(r.Agenda.Heap, event(whole(1), 4, 2, 2)) {
		t.Error(r)
	}
	wantNoRenew(t, c, moving(), certs(over(2, 1), over(2, 5), over(1, 5), over(1, 2), over(5, 1)), api.ErrFull)
	// With this field 1 ahead of 5 fails, which did not before.
	f := withPoint(moving(), pt(5, 0, 3))
	wantNoRenew(t, c, f, certs(over(2, 1), over(2, 5), over(1, 5), over(5, 2)), api.ErrFull)
	wantNoRenew(t, blocked(clockOf(whole(1), moving(), over(1, 5))), f, certs(over(1, 5)), api.ErrFull)
	r = renew(t, c, f, over(1, 5))
	if !slices.Equal(r.Agenda.Heap, []api.Event{event(whole(1), 2, 2, 2)}) {
		t.Error(r)
	}
	// The slot of what is retired was used too often, so it cannot be taken again.
	used := usedUp(trio(), 3)
	wantNoRenew(t, used, moving(), certs(over(2, 1), over(2, 5), over(1, 2)), api.ErrFull)
	wantNoRenew(t, used, f, certs(over(1, 5)), api.ErrFull)
	if r := renew(t, used, moving(), over(2, 1), over(2, 5), over(1, 5)); r.Agenda.Slots.Uses[2] != limit {
		t.Error(r)
	}
}

// P13.2: Renew, against the promise.
func TestRenewByPromise(t *testing.T) {
	m := mixer(137)
	seen := map[api.Errno]int{}
	for i := range 3000 {
		c := m.someClock(2+i%12, i%14)
		if i%7 == 0 && len(c.Agenda.Slots.Free) > 0 {
			c = blocked(c)
		}
		if i%9 == 0 {
			c = counted(c, m.below(6))
		}
		f := m.other(c.Field, m.pick(0, 0, 3, 9))
		edges := mixed(&m, append(m.some(certsOf(c), 7), m.edges(m.below(9), f)...))
		if m.below(9) > 0 {
			edges = slices.Compact(order(edges))
			edges = mixed(&m, edges)
		}
		switch m.below(20) {
		case 0:
			edges = append(edges, badCerts()[m.below(40)])
		case 1:
			f = without(f, f.Points[m.below(len(f.Points))].ID)
		case 2:
			list := badFields()[[]api.Errno{api.ErrMany, api.ErrBad, api.ErrOrder}[m.below(3)]]
			f = list[m.below(len(list))]
		case 3:
			c.Now = m.time(c.Field)
		}
		want, e := renewed(c, f, edges)
		wantRenew(t, c, f, edges, want, e)
		seen[e]++
	}
	for e, n := range map[api.Errno]int{api.OK: 1000, api.ErrBad: 100, api.ErrNone: 50, api.ErrTwice: 50, api.ErrFull: 50, api.ErrMany: 20, api.ErrOrder: 20} {
		if seen[e] < n {
			t.Error(e, "seen only", seen[e])
		}
	}
}

// some are about so many of ten of some certificates.
func (m *mixer) some(list []api.Cert, ofTen int) []api.Cert {
	return slices.DeleteFunc(slices.Clone(list), func(api.Cert) bool { return m.below(10) >= ofTen })
}

// P13.2: what is renewed has the field, and the edges as its certificates, at the same time, and is valid; renewed again it is the same.
func TestRenewLeaves(t *testing.T) {
	m := mixer(138)
	seen := 0
	for i := range 1000 {
		c := m.someClock(2+i%12, i%14)
		f := m.other(c.Field, m.pick(0, 3, 9))
		edges := m.edges(m.below(12), f)
		r := renew(t, c, f, edges...)
		if clock.Check(r) != api.OK || r.Now != c.Now || !slices.Equal(r.Field.Points, f.Points) || !slices.Equal(order(certsOf(r)), order(edges)) {
			t.Fatal(c, f, edges, r)
		}
		wantRenew(t, r, f, edges, r, api.OK)
		for _, h := range r.Certs.List {
			if slices.Contains(certsOf(c), h.Cert) != (h.Number < c.Certs.Next) {
				t.Fatal(c, f, edges, r, h)
			}
			seen++
		}
	}
	enough(t, seen)
}
