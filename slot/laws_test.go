package slot_test

import (
	"slices"
	"testing"

	"peloton/api"
	"peloton/slot"
)

// book keeps all that was said of a table: the handles that are live, and those that were.
type book struct {
	s         api.Slots
	live, old []api.Handle
}

// taking is the book after a slot was taken, if one can be.
func (b *book) taking(t *testing.T) {
	t.Helper()
	s, h, e := slot.Take(b.s)
	if e == api.ErrFull {
		return
	}
	if e != api.OK || slices.Contains(b.live, h) || slices.Contains(b.old, h) {
		t.Fatal(b, h, e)
	}
	b.s, b.live = s, append(b.live, h)
}

// giving is the book after the live handle with an index was given back.
func (b *book) giving(t *testing.T, i int) {
	t.Helper()
	h := b.live[i]
	b.s = give(t, b.s, h)
	b.live, b.old = slices.Delete(b.live, i, i+1), append(b.old, h)
}

// check fails unless the table is valid and knows the live handles, and none of those that were.
func (b *book) check(t *testing.T) {
	t.Helper()
	if slot.Check(b.s) != api.OK {
		t.Fatal(b)
	}
	for _, h := range b.live {
		wantHas(t, b.s, h, true)
	}
	for _, h := range b.old {
		wantHas(t, b.s, h, false)
		wantGive(t, b.s, h, api.Slots{}, api.ErrNone)
	}
	slots := map[int]bool{}
	for _, h := range b.live {
		slots[h.Index] = true
	}
	room, e := slot.Room(b.s)
	if len(slots) != len(b.live) || room != len(b.s.Used)-len(b.live) || e != api.OK {
		t.Fatal("two live handles have the same slot", b, room, e)
	}
}

// P6.3: a handle is live from taking it until it is given back, and never again; no two live ones have the same slot; all of it whatever is taken and given back in between.
func TestHandles(t *testing.T) {
	m := mixer(63)
	seen := 0
	for i := range 120 {
		b := book{s: m.table(1 + m.below(8))}
		// What was there before counts as well.
		b.live = liveHandles(b.s)
		for range 60 {
			// Phases in which more is taken, and others in which more is given back.
			if m.below(10) < 2+i%7 {
				b.taking(t)
			} else if len(b.live) > 0 {
				b.giving(t, m.below(len(b.live)))
			}
			b.check(t)
			seen += len(b.old)
		}
	}
	enough(t, seen)
}

// P6.3: of all handles of a table, with any index and number of uses, just one is live for each slot that is used.
func TestOneHandleOfEachUsedSlot(t *testing.T) {
	m := mixer(36)
	seen := 0
	for range 200 {
		b := book{s: fresh(1 + m.below(5))}
		for range 30 {
			if m.below(2) == 0 {
				b.taking(t)
			} else if len(b.live) > 0 {
				b.giving(t, m.below(len(b.live)))
			}
		}
		var list []api.Handle
		for index := -2; index <= len(b.s.Used)+2; index++ {
			for use := -2; use <= 34; use++ {
				if has(t, b.s, handle(index, use)) {
					list = append(list, handle(index, use))
				}
			}
		}
		seen += len(b.old)
		if want := liveHandles(b.s); !slices.Equal(list, want) || len(want) != len(b.live) {
			t.Fatal(b, list, want)
		}
	}
	enough(t, seen)
}

// P6.3: what is given back is taken next, with one more use; of several the last one first.
func TestGivenBackIsTakenNext(t *testing.T) {
	m := mixer(37)
	seen := 0
	for range 800 {
		s := m.table(1 + m.below(9))
		var back []api.Handle
		for _, h := range liveHandles(s) {
			if h.Use < api.MaxUses && m.below(3) > 0 {
				back = slices.Insert(back, m.below(len(back)+1), h)
			}
		}
		r := s
		for _, h := range back {
			r = give(t, r, h)
		}
		for _, h := range slices.Backward(back) {
			next, g := take(t, r)
			if r = next; g != handle(h.Index, h.Use+1) {
				t.Fatal(s, back, h, g)
			}
			seen++
		}
		// All is as it was then, but for the uses.
		if !slices.Equal(r.Used, s.Used) || !slices.Equal(r.Free, s.Free) {
			t.Fatal(s, r)
		}
	}
	enough(t, seen)
}

// P6.3: a slot is taken MaxUses times, and then no more; what was given back after that is all the same the next one, so nothing is taken until another one comes behind it.
func TestMostUses(t *testing.T) {
	const end = api.MaxUses
	s := table(numbers(end-3, 4, 0), flags(".x."), 2, 0)
	for use := end - 2; use <= end; use++ {
		r, h := take(t, s)
		if h != handle(0, use) {
			t.Fatal(s, h)
		}
		s = give(t, r, h)
	}
	wantTake(t, s, api.Slots{}, api.Handle{}, api.ErrFull)
	wantHas(t, s, handle(0, end), false)
	s = give(t, s, handle(1, 4))
	s, h := take(t, s)
	if h != handle(1, 5) || !same(s, table(numbers(end, 5, 0), flags(".x."), 2, 0)) {
		t.Fatal(s, h)
	}
	wantTake(t, s, api.Slots{}, api.Handle{}, api.ErrFull)
}

// P6.3: taking and giving back change nothing of other slots.
func TestOtherSlotsStay(t *testing.T) {
	m := mixer(38)
	seen := 0
	stays := func(s, r api.Slots, but int) {
		t.Helper()
		for i := range s.Used {
			seen++
			if i != but && (r.Uses[i] != s.Uses[i] || r.Used[i] != s.Used[i]) {
				t.Fatal(s, r, but, i)
			}
		}
		other := func(list []int) []int {
			return slices.DeleteFunc(slices.Clone(list), func(i int) bool { return i == but })
		}
		if !slices.Equal(other(s.Free), other(r.Free)) {
			t.Fatal(s, r, but)
		}
	}
	for range 300 {
		s := m.table(2 + m.below(9))
		if r, h, e := slot.Take(s); e == api.OK {
			stays(s, r, h.Index)
		}
		for _, h := range liveHandles(s) {
			stays(s, give(t, s, h), h.Index)
		}
	}
	enough(t, seen)
}

// The examples of the chapter.
func TestExamples(t *testing.T) {
	s, e := slot.New(3)
	if e != api.OK {
		t.Fatal(e)
	}
	for i := range 3 {
		r, h := take(t, s)
		if s = r; h != handle(i, 1) {
			t.Error(i, h)
		}
	}
	wantTake(t, s, api.Slots{}, api.Handle{}, api.ErrFull)
	s = give(t, s, handle(1, 1))
	if !same(s, example()) {
		t.Error(s)
	}
	s, h := take(t, s)
	if h != handle(1, 2) || !has(t, s, h) || has(t, s, handle(1, 1)) {
		t.Error(s, h)
	}
	wantTake(t, s, api.Slots{}, api.Handle{}, api.ErrFull)
}
