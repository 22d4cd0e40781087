package ktourn_test

import (
	"slices"
	"testing"

	"peloton/api"
	"peloton/bracket"
	"peloton/clock"
	"peloton/crest"
	"peloton/field"
	"peloton/kheap"
	"peloton/ktourn"
	"peloton/meet"
)

// wantTourn fails unless a tournament is valid at a time, has some points at some places, its winner leads, and all edges hold.
func wantTourn(t *testing.T, k api.KTourn, now api.Ratio, f api.Field, places []int) {
	t.Helper()
	if k.Clock.Now != now || ktourn.Check(k) != api.OK || !isValid(k) || !slices.Equal(k.Clock.Field.Points, f.Points) {
		t.Fatal("not valid", k, now)
	}
	if !slices.Equal(k.Bracket.Places, places) {
		t.Fatal("other places", k, places)
	}
	edges, _ := ktourn.Edges(k)
	if len(edges) != max(0, len(f.Points)-1) || slices.ContainsFunc(edges, func(x api.Cert) bool { return !holds(f, x, now) }) {
		t.Fatal("an edge that does not hold", k, edges)
	}
	id, e := ktourn.Leader(k)
	if first, g := field.Leader(f, now); id != first || e != g {
		t.Fatal("another one leads", k, now, id, e, first, g)
	}
}

// steps are times from Now on, in order: those of meetings, around them, and others.
func (m *mixer) steps(k api.KTourn, n int) []api.Ratio {
	var list []api.Ratio
	for range n {
		list = append(list, m.later(k.Clock.Field, k.Clock.Now))
	}
	slices.SortFunc(list, compare)
	return list
}

// P15.3 and P15.4: after each advance the winner leads, all edges hold, and all are at the places at which they were.
func TestWinnerLeads(t *testing.T) {
	m := mixer(161)
	events := 0
	for i := range 500 {
		k := m.tourn(i % 17)
		if i%60 == 0 {
			k = m.tourn(64)
		}
		f, places := k.Clock.Field, slices.Clone(k.Bracket.Places)
		wantTourn(t, k, k.Clock.Now, f, places)
		for _, to := range m.steps(k, 5) {
			r, list := advance(t, k, to)
			wantTourn(t, r, to, f, places)
			k = r
			events += len(list)
		}
	}
	enough(t, events)
}

// P15.4: along all meetings the winners are the crest of the field, which layer 5 tells without moving, and the leaders of the heap of layer 13.
func TestWinnersAreTheCrest(t *testing.T) {
	m := mixer(162)
	seen := 0
	for i := range 250 {
		k := m.tourn(2 + i%12)
		all, e := crest.Of(k.Clock.Field, k.Clock.Now)
		if e != api.OK {
			t.Fatal(k, e)
		}
		heap, e := kheap.Build(k.Clock.Field, k.Clock.Now)
		if e != api.OK {
			t.Fatal(k, e)
		}
		var leads []api.Lead
		for _, to := range append([]api.Ratio{k.Clock.Now}, after(k)...) {
			k, _ = advance(t, k, to)
			id, e := ktourn.Leader(k)
			if heap, _, e = kheap.Advance(heap, to); e != api.OK {
				t.Fatal(heap, to, e)
			}
			if other, g := kheap.Leader(heap); id != other || e != g {
				t.Fatal(k, heap, id, other, e, g)
			}
			if n := len(leads); n == 0 || leads[n-1].ID != id {
				leads = append(leads, api.Lead{From: to, ID: id})
			}
		}
		if !slices.Equal(leads, all) {
			t.Fatal(k, leads, all)
		}
		seen += len(leads)
	}
	if seen < 300 {
		t.Error("seen only", seen)
	}
}

// after are the times of all meetings behind Now, in order, each one once.
func after(k api.KTourn) []api.Ratio {
	list := slices.DeleteFunc(meetings(k.Clock.Field), func(at api.Ratio) bool { return compare(at, k.Clock.Now) <= 0 })
	slices.SortFunc(list, compare)
	return slices.Compact(list)
}

// P15.4: the bracket depends on the field, its places and Now alone: it is the one that layer 10 builds, whatever there was before, and the edges are those of a tournament that was never advanced.
func TestBracketDependsOnNowAlone(t *testing.T) {
	m := mixer(163)
	events, firsts := 0, 0
	for i := range 500 {
		k := m.tourn(i % 15)
		if i%60 == 0 {
			k = m.tourn(64)
		}
		f, places := k.Clock.Field, k.Bracket.Places
		for _, to := range m.steps(k, 3) {
			r, list := advance(t, k, to)
			b, e := bracket.Build(f, to, places)
			if e != api.OK || !sameBracket(r.Bracket, b) || !slices.Equal(order(certsOf(r.Clock)), order(edgesOf(b))) {
				t.Fatal(k, to, r, b, e)
			}
			anew := build(t, f, to)
			if slices.Equal(anew.Bracket.Places, places) {
				if !sameBracket(r.Bracket, anew.Bracket) {
					t.Fatal(r, anew)
				}
				firsts++
			}
			k = r
			events += len(list)
		}
	}
	enough(t, events)
	if firsts < 100 {
		t.Error("seen only", firsts)
	}
}

// P15.4: an advance in two parts, or in more of them, is an advance.
func TestAdvanceInParts(t *testing.T) {
	m := mixer(164)
	events := 0
	for i := range 600 {
		k := m.tourn(i % 16)
		if i%60 == 0 {
			k = m.tourn(64)
		}
		steps := m.steps(k, m.pick(2, 2, 2, 6))
		one, all := advance(t, k, steps[len(steps)-1])
		var list []api.Cert
		parts := k
		for _, to := range steps {
			r, failed := advance(t, parts, to)
			parts, list = r, append(list, failed...)
		}
		if !same(one, parts) || !slices.Equal(all, list) {
			t.Fatal(k, steps, one, parts, all, list)
		}
		events += len(all)
	}
	enough(t, events)
}

// P15.4: each pair that fails in an advance meets behind the time before, and up to the new one, and none fails twice, also where many points meet at once, or have the same course; and the times at which pairs fail increase.
func TestWhatFailsMeets(t *testing.T) {
	m := mixer(165)
	events, twins := 0, 0
	for i := range 600 {
		k := m.tourn(2 + i%14)
		if i%60 == 0 {
			k = m.tourn(64)
		}
		if hasTwins(k.Clock.Field) {
			twins++
		}
		for _, to := range m.steps(k, 3) {
			r, failed := advance(t, k, to)
			wantMeetings(t, k, to, failed)
			k = r
			events += len(failed)
		}
		rest, failed := advance(t, k, whole(most))
		wantMeetings(t, k, whole(most), failed)
		wantAdvance(t, rest, whole(most), rest, nil, api.OK)
		events += len(failed)
	}
	enough(t, events)
	if twins < 100 {
		t.Error("seen only", twins)
	}
}

// hasTwins reports whether two points of a field have the same course.
func hasTwins(f api.Field) bool {
	for i, p := range f.Points {
		if slices.ContainsFunc(f.Points[:i], func(q api.Point) bool { return p.A == q.A && p.B == q.B }) {
			return true
		}
	}
	return false
}

// wantMeetings fails unless each pair that failed in an advance met behind the time before, up to the new one, one after the other, and each one once.
func wantMeetings(t *testing.T, k api.KTourn, to api.Ratio, failed []api.Cert) {
	t.Helper()
	all, e := meet.All(k.Clock.Field, k.Clock.Now, to)
	if e != api.OK {
		t.Fatal(k, to, e)
	}
	seen := map[[2]int]bool{}
	last := k.Clock.Now
	for _, x := range failed {
		pair := [2]int{min(x.Low, x.High), max(x.Low, x.High)}
		i := slices.IndexFunc(all, func(y api.Meeting) bool { return pair == [2]int{y.I, y.J} })
		if i < 0 {
			t.Fatal("no meeting", k, to, x, all)
		}
		if seen[pair] {
			t.Fatal("it failed before", k, to, x, failed)
		}
		if compare(all[i].At, last) <= 0 {
			t.Fatal("not behind what failed before", k, to, x, failed)
		}
		seen[pair], last = true, all[i].At
	}
}

// P15.4: no pair fails twice in all advances, as none that failed comes back: the faster one stays ahead.
func TestNoneFailsTwice(t *testing.T) {
	m := mixer(166)
	events := 0
	for i := range 500 {
		k := m.tourn(2 + i%14)
		if i%60 == 0 {
			k = m.tourn(64)
		}
		start, steps := k, m.steps(k, 5)
		var all []api.Cert
		for _, to := range steps {
			r, failed := advance(t, k, to)
			for _, x := range failed {
				if !holds(r.Clock.Field, over(x.Low, x.High), to) || !holds(k.Clock.Field, x, k.Clock.Now) {
					t.Fatal(k, r, x)
				}
			}
			k, all = r, append(all, failed...)
		}
		wantMeetings(t, start, steps[len(steps)-1], all)
		events += len(all)
	}
	enough(t, events)
}

// P15.4: at no time the same pair meets at two nodes, as the one that loses does not come up: each point but the winner loses once.
func TestNoPairAtSeveralNodes(t *testing.T) {
	m := mixer(167)
	seen := 0
	for i := range 500 {
		k := m.tourn(1 + i%20)
		k, _ = advance(t, k, m.later(k.Clock.Field, k.Clock.Now))
		edges, e := ktourn.Edges(k)
		if e != api.OK {
			t.Fatal(k, e)
		}
		var lost []int
		for _, x := range edges {
			lost = append(lost, x.Low)
		}
		id, e := ktourn.Leader(k)
		if e != api.OK || !slices.Equal(slices.Sorted(slices.Values(append(lost, id))), idsOf(k.Clock.Field)) {
			t.Fatal(k, edges, id, e)
		}
		seen += len(edges)
	}
	enough(t, seen)
}

// P15.2 and P15.4: the events of an advance are those that the clock tells one after the other, each one alone at its time.
func TestOneEventAfterTheOther(t *testing.T) {
	m := mixer(168)
	events := 0
	for i := range 500 {
		k := m.tourn(2 + i%14)
		_, all := advance(t, k, whole(most))
		var list []api.Cert
		for {
			y, e := clock.Next(k.Clock)
			if e != api.OK {
				break
			}
			r, failed := advance(t, k, y.At)
			if len(failed) != 1 || r.Clock.Now != y.At || heldAt(k.Clock, y.Number).Cert != failed[0] {
				t.Fatal(k, y, r, failed)
			}
			k, list = r, append(list, failed...)
		}
		if !slices.Equal(all, list) {
			t.Fatal(k, all, list)
		}
		events += len(all)
	}
	enough(t, events)
}

// P15.3: places stay as they are, those that are empty among them, in whatever order they are.
func TestPlacesNeverChange(t *testing.T) {
	for _, places := range [][]int{{0, 1, 2, 3}, {3, 2, 1, 0}, {2, 0, 3, 1}, {-1, 3, 0, -1, 1, -1, -1, 2}, {1, 3, 2, 0, -1, -1, -1, -1}, {-1, -1, -1, -1, 0, 1, 2, 3}, slices.Concat(empties(60), numbers(2, 1, 3, 0))} {
		for _, f := range []api.Field{chasing(), crowd(4), level(4), standing(4)} {
			k := tournOf(whole(-1), f, places...)
			for _, to := range []api.Ratio{whole(-1), whole(0), whole(1), frac(3, 2), whole(2), whole(3), whole(5), whole(most)} {
				k, _ = advance(t, k, to)
				wantTourn(t, k, to, f, places)
			}
		}
	}
}

// The examples of the chapter.
func TestExamples(t *testing.T) {
	k, e := ktourn.Build(moving(), whole(0))
	if e != api.OK || !slices.Equal(k.Bracket.Places, numbers(1, 2, 5, -1)) || !slices.Equal(k.Bracket.Wins, numbers(2, 2, 5)) {
		t.Error(k, e)
	}
	wantLeader(t, k, 2, api.OK)
	before, e := ktourn.Edges(k)
	if e != api.OK || slices.Contains(before, over(1, 5)) {
		t.Error(before, e)
	}
	k, failed, e := ktourn.Advance(k, whole(2))
	if e != api.OK || !slices.Equal(k.Bracket.Wins, numbers(1, 1, 5)) || !slices.Equal(failed, []api.Cert{{Low: 1, High: 2}}) {
		t.Error(k, failed, e)
	}
	wantLeader(t, k, 1, api.OK)
	wantEdges(t, k, []api.Cert{{Low: 5, High: 1}, {Low: 2, High: 1}}, api.OK)
}
