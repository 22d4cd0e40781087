package oracle

import (
	"slices"

	"peloton/api"
	"peloton/course"
	"peloton/field"
	"peloton/meet"
	"peloton/ratio"
)

// run does asks on a valid model, one after the other.
func run(m api.Model, asks ...api.Ask) (api.Model, []api.Reply) {
	// Asks that change no point would leave the memory of the argument to the result.
	m.Field.Points = slices.Clone(m.Field.Points)
	var replies []api.Reply
	for _, a := range asks {
		next, r := do(m, a)
		// With an error next is no model.
		if r.Err == api.OK {
			m = next
		}
		replies = append(replies, r)
	}
	return m, replies
}

// do returns a valid model after an ask, and the reply; if this has an error, it has nothing else.
func do(m api.Model, a api.Ask) (api.Model, api.Reply) {
	if !isWellFormed(a) {
		return api.Model{}, api.Reply{Err: api.ErrForm}
	}
	var r api.Reply
	switch a.Kind {
	case api.AskPut:
		m.Field, r.Err = field.Put(m.Field, a.Point)
	case api.AskTake:
		m.Field, r.Err = field.Take(m.Field, a.ID)
	case api.AskChange:
		m.Field, r.Err = field.Change(m.Field, a.Point)
	case api.AskMove:
		r.Meetings, r.Err = between(m, a.At)
		m.Now = a.At
	case api.AskLead:
		r.ID, r.Value, r.Err = lead(m)
	case api.AskClose:
		r.ID, r.Other, r.Value, r.Err = Closest(m.Field, m.Now)
	}
	return m, r
}

// isWellFormed reports whether an ask has one of the six kinds, and nothing that its kind does not use.
func isWellFormed(a api.Ask) bool {
	rest := a
	switch a.Kind {
	case api.AskPut, api.AskChange:
		rest.Point = api.Point{}
	case api.AskTake:
		rest.ID = 0
	case api.AskMove:
		rest.At = api.Ratio{}
	case api.AskLead, api.AskClose:
	default:
		return false
	}
	return rest == api.Ask{Kind: a.Kind}
}

// between are the meetings of an advance of a valid model to a time.
func between(m api.Model, to api.Ratio) ([]api.Meeting, api.Errno) {
	if e := ratio.Asked(to); e != api.OK {
		return nil, e
	}
	// Both times are valid, so there is no error.
	if k, _ := ratio.Cmp(to, m.Now); k <= 0 {
		return nil, api.ErrPast
	}
	return meet.All(m.Field, m.Now, to)
}

// lead is the leader of a valid model, and its place.
func lead(m api.Model) (int, api.Ratio, api.Errno) {
	id, e := field.Leader(m.Field, m.Now)
	if e != api.OK {
		return 0, api.Ratio{}, e
	}
	// The leader is there, and at a time that is asked for its place is in range, so there are no errors.
	p, _ := field.Find(m.Field, id)
	place, _ := course.At(p, m.Now)
	return id, place, api.OK
}
