package cert

import (
	"cmp"
	"slices"

	"peloton/api"
)

// isValid reports whether a certificate names two points that may be there.
func isValid(x api.Cert) bool {
	return isID(x.Low) && isID(x.High) && x.Low != x.High
}

func isID(id int) bool {
	return 0 <= id && id <= api.MaxID
}

// numbersFit reports whether numbers increase strictly from 0 on, and Next is one that may come behind them.
func numbersFit(c api.Certs) bool {
	last := -1
	for _, h := range c.List {
		if h.Number <= last {
			return false
		}
		last = h.Number
	}
	// Without numbers last is -1, so Next is never below 0: otherwise Add would give out a number that no valid store has.
	return last < c.Next && c.Next <= api.MaxUses
}

// certsFit reports whether all certificates are valid, and no two the same.
func certsFit(list []api.Held) bool {
	seen := make(map[api.Cert]bool, len(list))
	for _, h := range list {
		if !isValid(h.Cert) || seen[h.Cert] {
			return false
		}
		seen[h.Cert] = true
	}
	return true
}

// find returns the place of the certificate with a number in a valid store, and whether it is there.
func find(c api.Certs, number int) (int, bool) {
	return slices.BinarySearchFunc(c.List, number, func(h api.Held, number int) int {
		return cmp.Compare(h.Number, number)
	})
}

// numbers are those of the certificates of which something is true, in the order of the store.
func numbers(c api.Certs, is func(x api.Cert) bool) []int {
	var list []int
	for _, h := range c.List {
		if is(h.Cert) {
			list = append(list, h.Number)
		}
	}
	return list
}

// byID are the points of a field by their IDs.
func byID(f api.Field) map[int]api.Point {
	points := make(map[int]api.Point, len(f.Points))
	for _, p := range f.Points {
		points[p.ID] = p
	}
	return points
}

// haveAll reports whether all points that a store names are there.
func haveAll(points map[int]api.Point, c api.Certs) bool {
	isMissing := func(h api.Held) bool {
		_, low := points[h.Cert.Low]
		_, high := points[h.Cert.High]
		return !low || !high
	}
	return !slices.ContainsFunc(c.List, isMissing)
}
