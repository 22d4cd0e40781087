package slot_test

import (
	"testing"

	"peloton/api"
	"peloton/slot"
)

func wantTake(t *testing.T, s, want api.Slots, h api.Handle, e api.Errno) {
	t.Helper()
	if r, g, f := slot.Take(s); !same(r, want) || g != h || f != e {
		t.Fatal("take", s, r, g, f, want, h, e)
	}
}

func wantGive(t *testing.T, s api.Slots, h api.Handle, want api.Slots, e api.Errno) {
	t.Helper()
	if r, f := slot.Give(s, h); !same(r, want) || f != e {
		t.Fatal("give", s, h, r, f, want, e)
	}
}

func wantHas(t *testing.T, s api.Slots, h api.Handle, want bool) {
	t.Helper()
	if ok, e := slot.Has(s, h); ok != want || e != api.OK {
		t.Fatal("has", s, h, ok, e, want)
	}
}

// P6.2: Take, where it is known.
func TestTake(t *testing.T) {
	const end = api.MaxUses
	none := api.Slots{}
	for _, c := range []struct {
		s, want api.Slots
		h       api.Handle
		e       api.Errno
	}{
		{fresh(1), table(numbers(1), flags("x")), handle(0, 1), api.OK},
		{fresh(3), table(numbers(1, 0, 0), flags("x.."), 2, 1), handle(0, 1), api.OK},
		{example(), table(numbers(1, 2, 1), flags("xxx")), handle(1, 2), api.OK},
		// The last one of Free, whichever number it has, and however often it was used.
		{table(numbers(0, 0, 0), flags("..."), 0, 1, 2), table(numbers(0, 0, 1), flags("..x"), 0, 1), handle(2, 1), api.OK},
		{table(numbers(0, 0, 0), flags("..."), 2, 0, 1), table(numbers(0, 1, 0), flags(".x."), 2, 0), handle(1, 1), api.OK},
		{table(numbers(9, 0, 0), flags("..."), 2, 1, 0), table(numbers(10, 0, 0), flags("x.."), 2, 1), handle(0, 10), api.OK},
		{table(numbers(3, 1, 4, 1, 5), flags(".x..x"), 3, 0, 2), table(numbers(3, 1, 5, 1, 5), flags(".xx.x"), 3, 0), handle(2, 5), api.OK},
		// Up to MaxUses times, and not once more.
		{table(numbers(end-2), flags("."), 0), table(numbers(end-1), flags("x")), handle(0, end-1), api.OK},
		{table(numbers(end-1), flags("."), 0), table(numbers(end), flags("x")), handle(0, end), api.OK},
		{table(numbers(end), flags("."), 0), none, handle(0, 0), api.ErrFull},
		// Just the last one of Free counts, though another one could be taken, or could not.
		{table(numbers(0, end), flags(".."), 0, 1), none, handle(0, 0), api.ErrFull},
		{table(numbers(0, end), flags(".."), 1, 0), table(numbers(1, end), flags("x."), 1), handle(0, 1), api.OK},
		{table(numbers(end, 0), flags(".."), 1, 0), none, handle(0, 0), api.ErrFull},
		{table(numbers(end, 0), flags(".."), 0, 1), table(numbers(end, 1), flags(".x"), 0), handle(1, 1), api.OK},
		{table(numbers(end, 0), flags("x."), 1), table(numbers(end, 1), flags("xx")), handle(1, 1), api.OK},
		// No slot is free.
		{taken(1), none, handle(0, 0), api.ErrFull},
		{taken(200), none, handle(0, 0), api.ErrFull},
		{table(numbers(end), flags("x")), none, handle(0, 0), api.ErrFull},
	} {
		wantTake(t, c.s, c.want, c.h, c.e)
	}
}

// P6.2: Give, where it is known.
func TestGive(t *testing.T) {
	none := api.Slots{}
	five := table(numbers(3, 1, 4, 1, 5), flags(".x..x"), 3, 0, 2)
	for _, c := range []struct {
		s    api.Slots
		h    api.Handle
		want api.Slots
		e    api.Errno
	}{
		{taken(1), handle(0, 1), table(numbers(1), flags("."), 0), api.OK},
		{example(), handle(0, 1), table(numbers(1, 1, 1), flags("..x"), 1, 0), api.OK},
		{example(), handle(2, 1), table(numbers(1, 1, 1), flags("x.."), 1, 2), api.OK},
		{five, handle(1, 1), table(numbers(3, 1, 4, 1, 5), flags("....x"), 3, 0, 2, 1), api.OK},
		{five, handle(4, 5), table(numbers(3, 1, 4, 1, 5), flags(".x..."), 3, 0, 2, 4), api.OK},
		// Where it was used MaxUses times it is given back like others.
		{table(numbers(api.MaxUses), flags("x")), handle(0, api.MaxUses), table(numbers(api.MaxUses), flags("."), 0), api.OK},
		// A slot that is free, with the number of its uses.
		{example(), handle(1, 1), none, api.ErrNone},
		{five, handle(0, 3), none, api.ErrNone},
		{fresh(3), handle(0, 0), none, api.ErrNone},
		{fresh(3), handle(2, 1), none, api.ErrNone},
		// Another number of uses: an earlier one, and one that is to come.
		{five, handle(4, 4), none, api.ErrNone},
		{five, handle(4, 6), none, api.ErrNone},
		{five, handle(1, 0), none, api.ErrNone},
		{five, handle(1, 5), none, api.ErrNone},
		{five, handle(1, -1), none, api.ErrNone},
		{five, handle(4, 5+1<<32), none, api.ErrNone},
		{table(numbers(api.MaxUses), flags("x")), handle(0, api.MaxUses+1), none, api.ErrNone},
		// An index out of range.
		{taken(1), handle(1, 1), none, api.ErrNone},
		{taken(1), handle(-1, 1), none, api.ErrNone},
		{five, handle(5, 5), none, api.ErrNone},
		{taken(200), handle(200, 1), none, api.ErrNone},
		{taken(200), handle(1<<32, 1), none, api.ErrNone},
		{taken(200), handle(most, most), none, api.ErrNone},
		{taken(200), handle(least, least), none, api.ErrNone},
	} {
		wantGive(t, c.s, c.h, c.want, c.e)
		wantHas(t, c.s, c.h, c.e == api.OK)
	}
}

// P6.2: Has of the handles that were, as slots are taken and given back.
func TestHas(t *testing.T) {
	s := fresh(2)
	wantHas(t, s, handle(0, 0), false)
	wantHas(t, s, handle(0, 1), false)
	s, _ = take(t, s)
	wantHas(t, s, handle(0, 1), true)
	wantHas(t, s, handle(0, 0), false)
	wantHas(t, s, handle(0, 2), false)
	wantHas(t, s, handle(1, 1), false)
	wantHas(t, s, handle(1, 0), false)
	s = give(t, s, handle(0, 1))
	wantHas(t, s, handle(0, 1), false)
	wantHas(t, s, handle(0, 2), false)
	s, _ = take(t, s)
	wantHas(t, s, handle(0, 1), false)
	wantHas(t, s, handle(0, 2), true)
}

// P6.2: Take, Give and Has, against the definitions.
func TestByDefinition(t *testing.T) {
	m := mixer(26)
	seen := map[api.Errno]int{}
	for i := range 4000 {
		s := m.table(1 + i%9)
		want, h, e := afterTaking(s)
		wantTake(t, s, want, h, e)
		seen[e]++
		for _, h := range liveHandles(s) {
			want, e := afterGiving(s, h)
			wantGive(t, s, h, want, e)
			wantHas(t, s, h, true)
			seen[e]++
		}
		for _, h := range otherHandles(s) {
			want, e := afterGiving(s, h)
			wantGive(t, s, h, want, e)
			wantHas(t, s, h, false)
			seen[e]++
		}
	}
	for _, e := range []api.Errno{api.OK, api.ErrNone, api.ErrFull} {
		enough(t, seen[e])
	}
}

// P6.2: each slot of the largest tables is taken, and given back.
func TestLargeTables(t *testing.T) {
	for _, s := range []api.Slots{fresh(199), fresh(200)} {
		for len(s.Free) > 0 {
			want, h, e := afterTaking(s)
			wantTake(t, s, want, h, e)
			s = want
		}
		wantTake(t, s, api.Slots{}, api.Handle{}, api.ErrFull)
		for i := range s.Used {
			h := handle(i*7%len(s.Used), 1)
			want, e := afterGiving(s, h)
			wantGive(t, s, h, want, e)
			s = want
		}
		if n, e := slot.Room(s); n != len(s.Used) || e != api.OK {
			t.Error(n, e)
		}
	}
}
