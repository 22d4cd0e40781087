package slot

import (
	"slices"

	"peloton/api"
)

// column has a value for each slot of a table.
type column[T any] []T

// with is a copy of a column in which one slot has another value: so the table of which it is stays as it was.
func (c column[T]) with(slot int, value T) column[T] {
	changed := slices.Clone(c)
	changed[slot] = value
	return changed
}

func isSize(n int) bool {
	return 1 <= n && n <= api.MaxSlots
}

func hasSlot(s api.Slots, slot int) bool {
	return 0 <= slot && slot < len(s.Used)
}

// isLive reports whether a handle, which may be any one, is live in a valid table.
func isLive(s api.Slots, h api.Handle) bool {
	return hasSlot(s, h.Index) && s.Used[h.Index] && s.Uses[h.Index] == h.Use
}

// usesFit reports whether all slots may have been used as often as they say, if Uses and Used have an element for each one.
func usesFit(s api.Slots) bool {
	for slot, used := range s.Used {
		least := 0
		if used {
			least = 1
		}
		if s.Uses[slot] < least || s.Uses[slot] > api.MaxUses {
			return false
		}
	}
	return true
}

// freeFits reports whether Free has just the numbers of the slots that are not used, each one once.
func freeFits(s api.Slots) bool {
	missing := make([]bool, len(s.Used))
	for slot, used := range s.Used {
		missing[slot] = !used
	}
	// A number that is there twice is not missing any more when it comes again.
	isWrong := func(slot int) bool {
		if !hasSlot(s, slot) || !missing[slot] {
			return true
		}
		missing[slot] = false
		return false
	}
	return !slices.ContainsFunc(s.Free, isWrong) && !slices.Contains(missing, true)
}
