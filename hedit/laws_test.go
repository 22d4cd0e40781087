package hedit_test

import (
	"slices"
	"testing"

	"peloton/api"
	"peloton/crest"
	"peloton/field"
	"peloton/hedit"
	"peloton/kheap"
	"peloton/oracle"
)

// wantAsBuilt fails unless a heap is valid at a time, has a field, and has the leader and as many edges as the heap of this field that is built anew, at that time and after each of some advances, of which all but the first are from the heap of the one before.
func wantAsBuilt(t *testing.T, k api.KHeap, now api.Ratio, f api.Field, steps ...api.Ratio) {
	t.Helper()
	if k.Clock.Now != now || !slices.Equal(k.Clock.Field.Points, f.Points) || kheap.Check(k) != api.OK || !isValid(k) {
		t.Fatal("not valid", k, now, f)
	}
	anew := build(t, f, now)
	wantAlike(t, k, anew)
	for _, to := range steps {
		k, _ = advance(t, k, to)
		anew, _ = advance(t, anew, to)
		if !isValid(k) || k.Clock.Now != to {
			t.Fatal("not valid after an advance", k, to)
		}
		wantAlike(t, k, anew)
	}
}

// wantAlike fails unless two heaps have the same leader, which is that of the field, and as many edges.
func wantAlike(t *testing.T, k, anew api.KHeap) {
	t.Helper()
	id, e := kheap.Leader(k)
	other, g := kheap.Leader(anew)
	first, h := field.Leader(k.Clock.Field, k.Clock.Now)
	if id != other || id != first || e != g || e != h {
		t.Fatal("another leader", k, anew, id, other, first, e, g, h)
	}
	edges, _ := kheap.Edges(k)
	more, _ := kheap.Edges(anew)
	if n := max(0, len(k.Clock.Field.Points)-1); len(edges) != n || len(more) != n || len(k.Clock.Certs.List) != n {
		t.Fatal("other edges", k, anew)
	}
}

// steps are times from Now on, in order: those of meetings, around them, and others.
func (m *mixer) steps(k api.KHeap, n int) []api.Ratio {
	var list []api.Ratio
	for range n {
		list = append(list, m.later(k.Clock.Field, k.Clock.Now))
	}
	slices.SortFunc(list, compare)
	return list
}

// P14.4: the heap stays valid, at the same time, with the field of layer 3, and has the leader and as many edges as the heap that is built anew, now and after each advance.
func TestAsBuiltAnew(t *testing.T) {
	m := mixer(171)
	for i := range 500 {
		k := m.kheap(i % 14)
		if i%100 == 0 {
			k = m.kheap(63)
		}
		f, now := k.Clock.Field, k.Clock.Now
		a, b := m.way(k)
		p := pt(m.stranger(f), a, b)
		g, e := field.Put(f, p)
		r := toPut(t, k, p)
		if e != api.OK {
			t.Fatal(f, p, e)
		}
		wantAsBuilt(t, r, now, g, m.steps(r, 3)...)
		if len(f.Points) == 0 {
			continue
		}
		id := k.Heap[m.below(len(k.Heap))]
		if g, e = field.Take(f, id); e != api.OK {
			t.Fatal(f, id, e)
		}
		r = toTake(t, k, id)
		wantAsBuilt(t, r, now, g, m.steps(r, 3)...)
		a, b = m.way(k)
		if g, e = field.Change(f, pt(id, a, b)); e != api.OK {
			t.Fatal(f, id, a, b, e)
		}
		r = toChange(t, k, pt(id, a, b))
		wantAsBuilt(t, r, now, g, m.steps(r, 3)...)
	}
}

// P14.4: the same for heaps through which many points come and go, while time goes on; beside them is a plain model.
func TestThroughManyChanges(t *testing.T) {
	m := mixer(172)
	seen := 0
	for i := range 40 {
		k := build(t, m.field(m.below(10)), whole(-5))
		model := api.Model{Now: k.Clock.Now, Field: k.Clock.Field}
		var e api.Errno
		for range 50 {
			x := m.ask(k, i%5 == 0)
			switch x.Kind {
			case api.AskPut:
				k = toPut(t, k, x.Point)
			case api.AskTake:
				k = toTake(t, k, x.ID)
			case api.AskChange:
				k = toChange(t, k, x.Point)
			case api.AskMove:
				k, _ = advance(t, k, x.At)
			}
			var y api.Reply
			if model, y, e = oracle.Do(model, x); e != api.OK || y.Err != api.OK {
				t.Fatal(model, x, y, e)
			}
			wantAsBuilt(t, k, model.Now, model.Field)
			seen++
		}
		wantAsBuilt(t, k, model.Now, model.Field, m.steps(k, 4)...)
	}
	enough(t, seen)
}

// ask is a change or an advance that a heap can have; a heap that grows is mostly given more points.
func (m *mixer) ask(k api.KHeap, grows bool) api.Ask {
	f := k.Clock.Field
	a, b := m.way(k)
	kind := m.pick(1, 1, 2, 2, 3, 3, 3, 4)
	if grows {
		kind = m.pick(1, 1, 1, 1, 2, 3, 4)
	}
	switch n := len(f.Points); {
	case kind == 4:
		return api.Ask{Kind: api.AskMove, At: ratio(k.Clock.Now.Num+1+int64(m.below(3)), k.Clock.Now.Den)}
	case kind == 1 && n < 64 || n == 0:
		return api.Ask{Kind: api.AskPut, Point: pt(m.stranger(f), a, b)}
	case kind == 2:
		return api.Ask{Kind: api.AskTake, ID: f.Points[m.below(n)].ID}
	default:
		return api.Ask{Kind: api.AskChange, Point: pt(f.Points[m.below(n)].ID, a, b)}
	}
}

// P14.4: along all meetings the first points are the crest of the new field, which layer 5 tells without moving.
func TestFirstPointsAreTheCrest(t *testing.T) {
	m := mixer(173)
	seen := 0
	for i := range 150 {
		k := m.kheap(2 + i%12)
		a, b := m.way(k)
		switch i % 3 {
		case 0:
			k = toPut(t, k, pt(m.stranger(k.Clock.Field), a, b))
		case 1:
			k = toTake(t, k, k.Heap[m.below(len(k.Heap))])
		default:
			k = toChange(t, k, pt(k.Heap[m.below(len(k.Heap))], a, b))
		}
		all, e := crest.Of(k.Clock.Field, k.Clock.Now)
		if e != api.OK {
			t.Fatal(k, e)
		}
		var leads []api.Lead
		for _, to := range append([]api.Ratio{k.Clock.Now}, after(k)...) {
			k, _ = advance(t, k, to)
			id, e := kheap.Leader(k)
			if e != api.OK {
				t.Fatal(k, e)
			}
			if n := len(leads); n == 0 || leads[n-1].ID != id {
				leads = append(leads, api.Lead{From: to, ID: id})
			}
		}
		if !slices.Equal(leads, all) {
			t.Fatal(k, leads, all)
		}
		seen += len(leads)
	}
	if seen < 200 {
		t.Error("seen only", seen)
	}
}

// after are the times of all meetings behind Now, in order, each one once.
func after(k api.KHeap) []api.Ratio {
	list := slices.DeleteFunc(meetings(k.Clock.Field), func(at api.Ratio) bool { return compare(at, k.Clock.Now) <= 0 })
	slices.SortFunc(list, compare)
	return slices.Compact(list)
}

// P14.4: what is put in can be taken out, at once or later, which leaves the field as it was.
func TestPutAndTaken(t *testing.T) {
	m := mixer(174)
	for i := range 500 {
		k := m.kheap(i % 16)
		if i%100 == 0 {
			k = m.kheap(63)
		}
		a, b := m.way(k)
		id := m.stranger(k.Clock.Field)
		r := toPut(t, k, pt(id, a, b))
		wantAsBuilt(t, toTake(t, r, id), k.Clock.Now, k.Clock.Field)
		to := m.later(r.Clock.Field, r.Clock.Now)
		r, _ = advance(t, r, to)
		wantAsBuilt(t, toTake(t, r, id), to, k.Clock.Field)
	}
}

// P14.4: what is taken out can be put in again, and a change can be taken back, too.
func TestTakenAndPut(t *testing.T) {
	m := mixer(175)
	for i := range 500 {
		k := m.kheap(1 + i%16)
		p := k.Clock.Field.Points[m.below(len(k.Heap))]
		wantAsBuilt(t, toPut(t, toTake(t, k, p.ID), p), k.Clock.Now, k.Clock.Field)
		a, b := m.way(k)
		wantAsBuilt(t, toChange(t, toChange(t, k, pt(p.ID, a, b)), p), k.Clock.Now, k.Clock.Field)
	}
}

// P14.4: a point that is changed to the same course changes no place, nor anything else.
func TestSameCourse(t *testing.T) {
	m := mixer(176)
	for i := range 300 {
		k := m.scarce(m.kheap(1 + i%40))
		for _, p := range k.Clock.Field.Points {
			r := toChange(t, k, p)
			if !same(r, k) {
				t.Fatal(k, p, r)
			}
		}
	}
}

// P14.3: a change moves the ID along one way: just the places from where it was to where it is have other IDs.
func TestOthersStay(t *testing.T) {
	m := mixer(177)
	seen := 0
	for i := range 400 {
		k := m.kheap(2 + i%30)
		a, b := m.way(k)
		id := k.Heap[m.below(len(k.Heap))]
		r := toChange(t, k, pt(id, a, b))
		from, to := slices.Index(k.Heap, id), slices.Index(r.Heap, id)
		way := between(min(from, to), max(from, to))
		for i := range k.Heap {
			if slices.Contains(way, i) != (k.Heap[i] != r.Heap[i]) {
				t.Fatal(k, r, way)
			}
		}
		seen += len(way)
	}
	if seen < 300 {
		t.Error("seen only", seen)
	}
}

// between are the places from one down to another one that is below it; none if they are the same.
func between(high, low int) []int {
	if high == low {
		return nil
	}
	list := numbers(low)
	for low != high {
		low = above(low)
		list = append(list, low)
	}
	return list
}

// P14.1 to P14.3: all small heaps, with all changes of a few places and speeds.
func TestAllSmall(t *testing.T) {
	ways := [][2]int64{{0, 0}, {1, 0}, {0, 1}, {2, -1}}
	seen := 0
	for n := range 4 {
		for code := range power(len(ways), n) {
			var f api.Field
			for i := range n {
				w := ways[code/power(len(ways), i)%len(ways)]
				f.Points = append(f.Points, pt(2*i+1, w[0], w[1]))
			}
			for _, heap := range heapsOf(f, whole(1)) {
				k := heapOf(whole(1), f, heap...)
				for id := range 2*n + 1 {
					want, e := taken(k, id)
					wantTake(t, k, id, want, e)
					for _, w := range ways {
						p := pt(id, w[0], w[1])
						want, e = put(k, p)
						wantPut(t, k, p, want, e)
						want, e = changed(k, p)
						wantChange(t, k, p, want, e)
						seen++
					}
				}
			}
		}
	}
	enough(t, seen)
}

func power(n, k int) int {
	r := 1
	for range k {
		r *= n
	}
	return r
}

// heapsOf are all valid heaps of some points at a time.
func heapsOf(f api.Field, now api.Ratio) [][]int {
	var list [][]int
	for _, heap := range ordersOf(idsOf(f)) {
		if !slices.ContainsFunc(edgesOf(heap), func(x api.Cert) bool { return !holds(f, x, now) }) {
			list = append(list, heap)
		}
	}
	return list
}

// ordersOf are some numbers in all orders.
func ordersOf(list []int) [][]int {
	if len(list) == 0 {
		return [][]int{nil}
	}
	var all [][]int
	for i, n := range list {
		for _, rest := range ordersOf(slices.Delete(slices.Clone(list), i, i+1)) {
			all = append(all, append(numbers(n), rest...))
		}
	}
	return all
}

// The examples of the chapter.
func TestExamples(t *testing.T) {
	k, e := kheap.Build(moving(), whole(0))
	if e != api.OK {
		t.Fatal(e)
	}
	if k, _, e = kheap.Advance(k, whole(2)); e != api.OK || !slices.Equal(k.Heap, numbers(1, 2, 5)) {
		t.Fatal(k, e)
	}
	k, e = hedit.Put(k, pt(7, 9, -1))
	if e != api.OK || !slices.Equal(k.Heap, numbers(7, 1, 5, 2)) {
		t.Error(k, e)
	}
	k, e = hedit.Take(k, 7)
	if e != api.OK || !slices.Equal(k.Heap, numbers(1, 2, 5)) {
		t.Error(k, e)
	}
}
