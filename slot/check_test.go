package slot_test

import (
	"slices"
	"testing"

	"peloton/api"
	"peloton/slot"
)

// P6.1: New of each number of slots that a table may have, at both ends of it, and beyond them.
func TestNew(t *testing.T) {
	for n := 1; n <= 200; n++ {
		if s, e := slot.New(n); !same(s, fresh(n)) || e != api.OK {
			t.Error(n, s, e)
		}
	}
	if s, e := slot.New(3); !same(s, table(numbers(0, 0, 0), flags("..."), 2, 1, 0)) || e != api.OK {
		t.Error(s, e)
	}
	for _, n := range []int{0, -1, -2, -200, 201, 202, 400, 1<<32 + 1, -1 << 32, most, least} {
		if s, e := slot.New(n); !same(s, api.Slots{}) || e != api.ErrArg {
			t.Error(n, s, e)
		}
	}
}

// P6.1: a new table is valid, all of its slots are free, no handle is live, and 0 is taken first, then 1, and so on.
func TestNewIsFree(t *testing.T) {
	for _, n := range []int{1, 2, 3, 199, 200} {
		s, e := slot.New(n)
		if room, f := slot.Room(s); slot.Check(s) != api.OK || e != api.OK || room != n || f != api.OK {
			t.Error(n, s, e, room, f)
		}
		for i := range n {
			for use := range 3 {
				if has(t, s, handle(i, use)) {
					t.Error(n, i, use)
				}
			}
		}
		for i := range n {
			r, h := take(t, s)
			if s = r; h != handle(i, 1) {
				t.Error(n, i, h)
			}
		}
	}
}

// P6.1: Check of tables that are valid.
func TestCheckValid(t *testing.T) {
	for _, s := range goodTables() {
		if e := slot.Check(s); e != api.OK || !isValid(s) {
			t.Error(s, e)
		}
	}
}

// P6.1: Check of tables that are not valid, in each way.
func TestCheckBad(t *testing.T) {
	for reason, list := range badTables() {
		for _, s := range list {
			if e := slot.Check(s); e != api.ErrBad || isValid(s) {
				t.Error(reason, s, e)
			}
		}
	}
}

// spoiled is a valid table in which a few numbers are others, so that it is valid no more, mostly.
func (m *mixer) spoiled(n int) api.Slots {
	s := m.table(n)
	for range 1 + m.below(2) {
		slot := m.below(n)
		switch m.below(7) {
		case 0:
			s.Uses[slot] = []int{0, -1, api.MaxUses, api.MaxUses + 1}[m.below(4)]
		case 1:
			s.Used[slot] = !s.Used[slot]
		case 2:
			s.Free = append(s.Free, slot)
		case 3:
			s.Free = s.Free[:max(len(s.Free)-1, 0)]
		case 4:
			if len(s.Free) > 0 {
				s.Free[m.below(len(s.Free))] = m.below(n+2) - 1
			}
		case 5:
			s.Uses = append(s.Uses, 1)
		case 6:
			s.Used = append(s.Used, true)
		}
	}
	return s
}

// P6.1: Check, against the definition.
func TestCheckByDefinition(t *testing.T) {
	m := mixer(61)
	good, bad := 0, 0
	for range 30000 {
		s := m.spoiled(1 + m.below(6))
		want := api.ErrBad
		if isValid(s) {
			want = api.OK
			good++
		} else {
			bad++
		}
		if e := slot.Check(s); e != want {
			t.Fatal(s, e, want)
		}
	}
	enough(t, good)
	enough(t, bad)
}

// P6.1: each one of all tables of two slots with small numbers is valid or not as the definition says.
func TestCheckSmallTables(t *testing.T) {
	frees := [][]int{nil}
	for i := -1; i <= 2; i++ {
		frees = append(frees, numbers(i))
		for j := -1; j <= 2; j++ {
			frees = append(frees, numbers(i, j), numbers(i, j, 0), numbers(1, i, j))
		}
	}
	good := 0
	for _, letters := range []string{"..", ".x", "x.", "xx"} {
		for i := range 9 {
			for _, free := range frees {
				s := table(numbers(i/3-1, i%3-1), flags(letters), free...)
				want := api.ErrBad
				if isValid(s) {
					want = api.OK
					good++
				}
				if e := slot.Check(s); e != want {
					t.Error(s, e, want)
				}
			}
		}
	}
	// Free has two orders where none is used; a slot that is used has been so once, and another one once or never.
	if good != 2*4+2*2+1 {
		t.Error(good)
	}
}

// P6.1: Room.
func TestRoom(t *testing.T) {
	for _, c := range []struct {
		s    api.Slots
		want int
	}{
		{fresh(1), 1}, {taken(1), 0}, {fresh(200), 200}, {taken(200), 0}, {example(), 1},
		{table(numbers(3, 1, 4, 1, 5), flags(".x..x"), 2, 3, 0), 3},
		// Slots that cannot be taken any more are free all the same.
		{table(numbers(api.MaxUses), flags("."), 0), 1}, {table(numbers(0, api.MaxUses), flags(".."), 0, 1), 2},
	} {
		if n, e := slot.Room(c.s); n != c.want || e != api.OK {
			t.Error(c.s, n, e)
		}
	}
	for _, s := range goodTables() {
		if n, e := slot.Room(s); n != len(s.Used)-len(liveHandles(s)) || e != api.OK {
			t.Error(s, n, e)
		}
	}
}

// P6.1: the order of Free is of no account to what is valid, and to Room.
func TestFreeInAnyOrder(t *testing.T) {
	m := mixer(16)
	for _, s := range goodTables() {
		s = clone(s)
		for i := range s.Free {
			j := m.below(i + 1)
			s.Free[i], s.Free[j] = s.Free[j], s.Free[i]
		}
		for range 3 {
			slices.Reverse(s.Free[:len(s.Free)/2])
			slices.Reverse(s.Free)
			if n, e := slot.Room(s); slot.Check(s) != api.OK || n != len(s.Free) || e != api.OK {
				t.Error(s, n, e)
			}
		}
	}
}
