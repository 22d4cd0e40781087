package slot_test

import (
	"math"
	"slices"
	"testing"

	"peloton/api"
	"peloton/slot"
)

const (
	most  = math.MaxInt
	least = math.MinInt
)

// table is a table as it is written, valid or not.
func table(uses []int, used []bool, free ...int) api.Slots {
	return api.Slots{Uses: uses, Used: used, Free: free}
}

func handle(index, use int) api.Handle {
	return api.Handle{Index: index, Use: use}
}

func numbers(n ...int) []int { return n }

// flags are a bool for each letter: true for x.
func flags(letters string) []bool {
	var list []bool
	for _, c := range letters {
		list = append(list, c == 'x')
	}
	return list
}

// example is the table of the chapter's examples, in which the slots 0 and 2 are used, and 1 was.
func example() api.Slots {
	return table(numbers(1, 1, 1), flags("x.x"), 1)
}

func same(a, b api.Slots) bool {
	return slices.Equal(a.Uses, b.Uses) && slices.Equal(a.Used, b.Used) && slices.Equal(a.Free, b.Free)
}

func clone(s api.Slots) api.Slots {
	return api.Slots{Uses: slices.Clone(s.Uses), Used: slices.Clone(s.Used), Free: slices.Clone(s.Free)}
}

// mixer makes numbers that look mixed, the same ones in each run.
type mixer uint64

func (m *mixer) below(n int) int {
	*m = *m*6364136223846793005 + 1442695040888963407
	return int((uint64(*m) ^ uint64(*m)>>29) >> 1 % uint64(n))
}

// table is a valid table of n slots, some of which are used, with Free in mixed order, and with numbers of uses from 0 to both sides of the end.
func (m *mixer) table(n int) api.Slots {
	var s api.Slots
	full := 1 + m.below(6)
	for i := range n {
		used := m.below(5) < full
		uses := []int{0, 1, 2, m.below(9), m.below(api.MaxUses), api.MaxUses - 1, api.MaxUses}[m.below(7)]
		if used {
			uses = max(uses, 1)
		} else {
			s.Free = slices.Insert(s.Free, m.below(len(s.Free)+1), i)
		}
		s.Uses, s.Used = append(s.Uses, uses), append(s.Used, used)
	}
	return s
}

// fresh is a table of n slots that were never used, as New has it.
func fresh(n int) api.Slots {
	s := api.Slots{Uses: make([]int, n), Used: make([]bool, n)}
	for i := n - 1; i >= 0; i-- {
		s.Free = append(s.Free, i)
	}
	return s
}

// taken is a table of n slots of which each one is used for the first time.
func taken(n int) api.Slots {
	return api.Slots{Uses: slices.Repeat(numbers(1), n), Used: slices.Repeat(flags("x"), n)}
}

// goodTables are valid ones, up to both ends of all that is limited, with Free in many orders.
func goodTables() []api.Slots {
	list := []api.Slots{
		example(),
		table(numbers(0), flags("."), 0), table(numbers(7), flags("."), 0), table(numbers(1), flags("x")),
		table(numbers(api.MaxUses), flags("."), 0), table(numbers(api.MaxUses), flags("x")),
		// Free in each order.
		table(numbers(0, 0, 0), flags("..."), 0, 1, 2), table(numbers(0, 0, 0), flags("..."), 0, 2, 1), table(numbers(0, 0, 0), flags("..."), 1, 0, 2),
		table(numbers(0, 0, 0), flags("..."), 1, 2, 0), table(numbers(0, 0, 0), flags("..."), 2, 0, 1), table(numbers(0, 0, 0), flags("..."), 2, 1, 0),
		table(numbers(3, 1, 4, 1, 5), flags(".x..x"), 3, 0, 2), table(numbers(3, 1, 4, 1, 5), flags(".x..x"), 2, 3, 0),
		// The last one of Free was used MaxUses times, or another one was.
		table(numbers(0, api.MaxUses), flags(".."), 0, 1), table(numbers(0, api.MaxUses), flags(".."), 1, 0),
		table(numbers(2, api.MaxUses, api.MaxUses-1), flags("x.."), 2, 1), table(numbers(2, api.MaxUses, api.MaxUses-1), flags("x.."), 1, 2),
		{Uses: slices.Repeat(numbers(api.MaxUses), 200), Used: make([]bool, 200), Free: fresh(200).Free},
		{Uses: make([]int, 200), Used: make([]bool, 200), Free: append(numbers(0), fresh(200).Free[:199]...)},
	}
	for _, n := range []int{1, 2, 3, 7, 64, 199, 200} {
		list = append(list, fresh(n), taken(n))
	}
	m := mixer(6)
	for _, n := range []int{1, 1, 2, 2, 2, 3, 3, 4, 5, 8, 13, 40, 199, 200, 200} {
		for range 12 {
			list = append(list, m.table(n))
		}
	}
	return list
}

// badTables are tables that are not valid, for each reason, by its name.
func badTables() map[string][]api.Slots {
	long := func(n, at, uses int, used bool) api.Slots {
		s := fresh(n)
		s.Uses[at] = uses
		if used {
			s.Used[at] = true
			s.Free = slices.DeleteFunc(s.Free, func(i int) bool { return i == at })
		}
		return s
	}
	free := func(n ...int) api.Slots { return table(numbers(3, 1, 4, 1, 5), flags(".x..x"), n...) }
	return map[string][]api.Slots{
		"no slot":        {{}, table(numbers(), flags("")), {Uses: make([]int, 0, 9), Used: make([]bool, 0, 9), Free: make([]int, 0, 9)}, table(nil, nil, 0)},
		"too many slots": {fresh(201), taken(201), fresh(202), taken(256), fresh(5000)},
		"not as many of Uses as of Used": {
			table(numbers(0), nil, 0), table(nil, flags("."), 0), table(nil, flags("x")), table(numbers(1), nil),
			table(numbers(0, 0, 0), flags(".."), 1, 0), table(numbers(0, 0), flags("..."), 2, 1, 0), table(numbers(0, 0), flags("..."), 1, 0),
			table(numbers(0, 0, 0), flags(".."), 2, 1, 0), table(numbers(1, 1, 1), flags("xx")), table(numbers(1, 1), flags("xxx")),
			{Uses: make([]int, 200), Used: make([]bool, 201), Free: fresh(200).Free}, {Uses: make([]int, 201), Used: make([]bool, 200), Free: fresh(200).Free},
		},
		"Uses below 0": {
			table(numbers(-1), flags("."), 0), table(numbers(-1), flags("x")), table(numbers(least), flags("."), 0), table(numbers(least), flags("x")),
			long(9, 0, -1, false), long(9, 4, -1, false), long(9, 8, -1, false), long(200, 199, -1, false), long(200, 0, -7, true),
		},
		"Uses above MaxUses": {
			table(numbers(api.MaxUses+1), flags("."), 0), table(numbers(api.MaxUses+1), flags("x")), table(numbers(most), flags("."), 0), table(numbers(most), flags("x")),
			long(9, 0, api.MaxUses+1, false), long(9, 4, api.MaxUses+1, false), long(9, 8, api.MaxUses+1, true), long(200, 199, api.MaxUses+1, false), long(200, 0, 1<<32, true),
		},
		"Uses 0 of a slot that is used": {
			table(numbers(0), flags("x")), long(9, 0, 0, true), long(9, 4, 0, true), long(9, 8, 0, true), long(200, 199, 0, true), long(200, 0, 0, true),
		},
		"Free without a number": {
			table(numbers(0), flags(".")), free(), free(3, 0), free(3, 2), free(0, 2), free(2),
			{Uses: make([]int, 200), Used: make([]bool, 200)}, {Uses: make([]int, 200), Used: make([]bool, 200), Free: fresh(199).Free},
		},
		"a number twice in Free": {
			table(numbers(0), flags("."), 0, 0), free(3, 0, 2, 2), free(3, 0, 2, 3), free(3, 0, 0, 2), free(3, 3, 2, 0),
			free(3, 3, 0), free(3, 0, 3), free(0, 3, 3), free(2, 2, 2), {Uses: make([]int, 3), Used: make([]bool, 3), Free: make([]int, 3)},
			{Uses: make([]int, 200), Used: make([]bool, 200), Free: append(numbers(0), fresh(200).Free...)}, {Uses: make([]int, 200), Used: make([]bool, 200), Free: append(numbers(5), fresh(200).Free[:199]...)},
			{Uses: make([]int, 2), Used: make([]bool, 2), Free: slices.Repeat(numbers(1, 0), 5000)},
		},
		"a number out of range in Free": {
			table(numbers(0), flags("."), 1), table(numbers(0), flags("."), -1), table(numbers(0), flags("."), 0, 1), table(numbers(0), flags("."), -1, 0),
			table(numbers(1), flags("x"), 1), table(numbers(1), flags("x"), -1), table(numbers(1), flags("x"), 200),
			free(3, 0, 5), free(3, 0, -1), free(5, 3, 0, 2), free(3, 0, 2, 5), free(3, 0, -2, 2), free(3, 0, 2, most), free(least, 3, 0, 2), free(3, 0, 1<<32+2),
			{Uses: make([]int, 200), Used: make([]bool, 200), Free: append(numbers(200), fresh(200).Free[:199]...)},
		},
		"a slot that is used in Free": {
			table(numbers(1), flags("x"), 0), free(3, 0, 2, 1), free(4, 3, 0, 2), free(3, 0, 1), free(3, 4, 2), free(1, 4), free(1, 4, 4),
			{Uses: taken(200).Uses, Used: taken(200).Used, Free: fresh(200).Free}, {Uses: taken(3).Uses, Used: taken(3).Used, Free: numbers(0)},
		},
		"nothing that is right": {table(numbers(-1, most), flags("x.x"), -1, 7, 7, 0), table(numbers(least), flags("xx"), 0, 0, most)},
	}
}

// allTables are valid and other ones, in the same order in each run.
func allTables() []api.Slots {
	list := goodTables()
	bad := badTables()
	var reasons []string
	for reason := range bad {
		reasons = append(reasons, reason)
	}
	slices.Sort(reasons)
	for _, reason := range reasons {
		list = append(list, bad[reason]...)
	}
	return list
}

// isValid follows the definition of a valid table.
func isValid(s api.Slots) bool {
	n := len(s.Uses)
	if n < 1 || n > 200 || len(s.Used) != n {
		return false
	}
	var free []int
	for i := range n {
		if s.Uses[i] < 0 || s.Uses[i] > 1000000 || s.Used[i] && s.Uses[i] < 1 {
			return false
		}
		if !s.Used[i] {
			free = append(free, i)
		}
	}
	return slices.Equal(slices.Sorted(slices.Values(s.Free)), free)
}

// liveHandles are the handles that are live in a valid table, by the definition.
func liveHandles(s api.Slots) []api.Handle {
	var list []api.Handle
	for i, used := range s.Used {
		if used {
			list = append(list, handle(i, s.Uses[i]))
		}
	}
	return list
}

// otherHandles are handles that are not live in a valid table: those of slots that are free, those of other numbers of uses, and those of indexes out of range.
func otherHandles(s api.Slots) []api.Handle {
	var list []api.Handle
	for i, used := range s.Used {
		if !used {
			list = append(list, handle(i, s.Uses[i]), handle(i, 0))
		}
		for _, use := range []int{s.Uses[i] - 1, s.Uses[i] + 1, 0, -1, -s.Uses[i] - 1, s.Uses[i] + 1<<32, most, least} {
			if use != s.Uses[i] {
				list = append(list, handle(i, use))
			}
		}
	}
	for _, index := range []int{-1, -2, len(s.Used), len(s.Used) + 1, api.MaxSlots, -len(s.Used), 1 << 32, most, least} {
		if index < 0 || index >= len(s.Used) {
			list = append(list, handle(index, 0), handle(index, 1), handle(index, s.Uses[0]))
		}
	}
	return list
}

// afterTaking is what Take returns for a valid table, by the definition.
func afterTaking(s api.Slots) (api.Slots, api.Handle, api.Errno) {
	if len(s.Free) == 0 {
		return api.Slots{}, api.Handle{}, api.ErrFull
	}
	i := s.Free[len(s.Free)-1]
	if s.Uses[i] == 1000000 {
		return api.Slots{}, api.Handle{}, api.ErrFull
	}
	s = clone(s)
	s.Uses[i]++
	s.Used[i] = true
	s.Free = s.Free[:len(s.Free)-1]
	return s, handle(i, s.Uses[i]), api.OK
}

// afterGiving is what Give returns for a valid table, by the definition.
func afterGiving(s api.Slots, h api.Handle) (api.Slots, api.Errno) {
	if !slices.Contains(liveHandles(s), h) {
		return api.Slots{}, api.ErrNone
	}
	s = clone(s)
	s.Used[h.Index] = false
	s.Free = append(s.Free, h.Index)
	return s, api.OK
}

// take is Take of a table of which a slot can be taken.
func take(t *testing.T, s api.Slots) (api.Slots, api.Handle) {
	t.Helper()
	r, h, e := slot.Take(s)
	if e != api.OK {
		t.Fatal(s, e)
	}
	return r, h
}

// give is Give of a handle that is live.
func give(t *testing.T, s api.Slots, h api.Handle) api.Slots {
	t.Helper()
	r, e := slot.Give(s, h)
	if e != api.OK {
		t.Fatal(s, h, e)
	}
	return r
}

// has is Has of a valid table.
func has(t *testing.T, s api.Slots, h api.Handle) bool {
	t.Helper()
	ok, e := slot.Has(s, h)
	if e != api.OK {
		t.Fatal(s, h, e)
	}
	return ok
}

// enough fails if something was seen so seldom that it was hardly tested.
func enough(t *testing.T, seen int) {
	t.Helper()
	if seen < 1000 {
		t.Error("seen only", seen)
	}
}
