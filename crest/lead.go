package crest

import (
	"slices"

	"peloton/api"
	"peloton/course"
	"peloton/field"
	"peloton/ratio"
)

// overtaken returns the lead that comes next after one of the crest of a valid field, and whether there is one.
func overtaken(f api.Field, lead api.Lead) (api.Lead, bool) {
	p := pointOf(f, lead.ID)
	first, found := api.Ratio{}, false
	for _, q := range f.Points {
		t, lost := lostTo(p, q, lead.From)
		if lost && (!found || isBefore(t, first)) {
			first, found = t, true
		}
	}
	if !found {
		return api.Lead{}, false
	}
	// Several points may overtake at once, so the field tells which one leads. It has points and the time is valid, so there is no error.
	id, _ := field.Leader(f, first)
	return api.Lead{From: first, ID: id}, true
}

// merged is the merged crest of two valid ones that begin at the same time, with points that a valid field has. It may have more leads than a valid crest.
func merged(f api.Field, a, b []api.Lead) []api.Lead {
	var l []api.Lead
	push := func(from api.Ratio, p api.Point) {
		if len(l) == 0 || l[len(l)-1].ID != p.ID {
			l = append(l, api.Lead{From: from, ID: p.ID})
		}
	}
	times := changes(a, b)
	for i, from := range times {
		high, low := pointOf(f, leadAt(a, from)), pointOf(f, leadAt(b, from))
		if isAhead(low, high, from) {
			high, low = low, high
		}
		push(from, high)
		t, lost := lostTo(high, low, from)
		// The pair is there up to the next change: at this time it is another one.
		if lost && (i+1 == len(times) || isBefore(t, times[i+1])) {
			push(t, low)
		}
	}
	return l
}

// changes are the times at which one of two crests has a lead, in order, and each one once.
func changes(a, b []api.Lead) []api.Ratio {
	var times []api.Ratio
	for _, lead := range slices.Concat(a, b) {
		times = append(times, lead.From)
	}
	slices.SortFunc(times, compare)
	return slices.Compact(times)
}

// leadAt is the ID of the lead of a valid crest at a valid time that is not before its first one.
func leadAt(l []api.Lead, t api.Ratio) int {
	at, found := slices.BinarySearchFunc(l, t, func(lead api.Lead, t api.Ratio) int {
		return compare(lead.From, t)
	})
	// Where no lead begins at the time itself, it is the one before the place at which such a lead would be.
	if !found {
		at--
	}
	return l[at].ID
}

// pointOf is the point with an ID that a valid field has.
func pointOf(f api.Field, id int) api.Point {
	p, _ := field.Find(f, id)
	return p
}

// isAhead reports whether p is ahead of q; no point is ahead of itself. Beside the error that course.Ahead has for a point and itself there is none, as points and time are valid.
func isAhead(p, q api.Point, t api.Ratio) bool {
	ahead, _ := course.Ahead(p, q, t)
	return ahead
}

// lostTo returns the time at which high, which is ahead of low now, is not ahead any more, and whether there is one; a point does not overtake itself. Errors are as with isAhead.
func lostTo(high, low api.Point, now api.Ratio) (api.Ratio, bool) {
	t, found, _ := course.Fails(high, low, now)
	return t, found
}

func isBefore(a, b api.Ratio) bool {
	return compare(a, b) < 0
}

// compare compares two valid fractions, so there is no error.
func compare(a, b api.Ratio) int {
	k, _ := ratio.Cmp(a, b)
	return k
}
