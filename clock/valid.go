package clock

import (
	"cmp"
	"slices"

	"peloton/agenda"
	"peloton/api"
	"peloton/cert"
	"peloton/course"
	"peloton/field"
	"peloton/ratio"
)

// partsFit reports whether each part of a clock is valid, Field has all points that Certs name, and Agenda has MaxSlots slots.
func partsFit(c api.Clock) bool {
	if firstError(ratio.Check(c.Now), field.Check(c.Field), cert.Check(c.Certs), agenda.Check(c.Agenda)) != api.OK {
		return false
	}
	return checkNamed(c.Field, c.Certs) == api.OK && len(c.Agenda.Slots.Uses) == api.MaxSlots
}

// eventsFit reports whether Due has just the certificates that fail from Now on, each one with the handle of its event, and Agenda has no other events, if all parts fit.
func eventsFit(c api.Clock) bool {
	failing := failures(c)
	if len(c.Due) != len(failing) || len(c.Agenda.Heap) != len(failing) {
		return false
	}
	for i, x := range failing {
		x.Handle = c.Due[i].Handle
		if c.Due[i].Number != x.Number || !hasEvent(c.Agenda, x) {
			return false
		}
	}
	return true
}

// failures are the certificates that fail from Now on, as events without handles, in the order of their numbers.
func failures(c api.Clock) []api.Event {
	var list []api.Event
	for _, h := range c.Certs.List {
		if at, fails := failure(c, h.Cert); fails {
			list = append(list, api.Event{At: at, Number: h.Number})
		}
	}
	return list
}

// failure is the failure time of a certificate from Now on, and whether it has one, if Field has both of its points.
func failure(c api.Clock, x api.Cert) (api.Ratio, bool) {
	high, _ := find(c.Field, x.High)
	low, _ := find(c.Field, x.Low)
	// Points and Now are valid, and the IDs of a valid certificate differ, so there is no error.
	at, fails, _ := course.Fails(high, low, c.Now)
	return at, fails
}

// hasEvent reports whether a valid agenda has an event, with its handle.
func hasEvent(a api.Agenda, x api.Event) bool {
	i := x.Handle.Index
	// agenda.Find would check the agenda anew for each event; Where leads to the only one that may have this handle.
	return 0 <= i && i < len(a.Where) && a.Where[i] >= 0 && a.Heap[a.Where[i]] == x
}

// find returns the point with an ID of a valid field, and whether it is there.
func find(f api.Field, id int) (api.Point, bool) {
	// field.Find would check the field anew for each point.
	at, found := slices.BinarySearchFunc(f.Points, id, func(p api.Point, id int) int {
		return cmp.Compare(p.ID, id)
	})
	if !found {
		return api.Point{}, false
	}
	return f.Points[at], true
}

func hasBoth(f api.Field, x api.Cert) bool {
	_, high := find(f, x.High)
	_, low := find(f, x.Low)
	return high && low
}
