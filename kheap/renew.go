package kheap

import (
	"slices"

	"peloton/api"
	"peloton/clock"
	"peloton/field"
)

// checkEdges returns ErrBad unless all edges are valid, then ErrTwice if one is there twice, and then ErrNone unless a valid field has all points that they name.
func checkEdges(f api.Field, edges []api.Cert) api.Errno {
	for _, x := range edges {
		if !isID(x.Low) || !isID(x.High) || x.Low == x.High {
			return api.ErrBad
		}
	}
	if len(setOf(edges)) < len(edges) {
		return api.ErrTwice
	}
	for _, x := range edges {
		if !has(f, x.Low) || !has(f, x.High) {
			return api.ErrNone
		}
	}
	return api.OK
}

func isID(id int) bool {
	return 0 <= id && id <= api.MaxID
}

func has(f api.Field, id int) bool {
	_, e := field.Find(f, id)
	return e == api.OK
}

// renewed is a valid clock with a valid field, and with valid edges, each one there once and of points of the field, as its certificates.
func renewed(c api.Clock, f api.Field, edges []api.Cert) (api.Clock, api.Errno) {
	wanted, held := setOf(edges), certsOf(c)
	for _, h := range c.Certs.List {
		if !wanted[h.Cert] {
			// The number is that of a certificate, so there is no error.
			c, _ = clock.Retire(c, h.Number)
		}
	}
	var e api.Errno
	if !slices.Equal(c.Field.Points, f.Points) {
		if c, e = clock.Alter(c, f); e != api.OK {
			return api.Clock{}, e
		}
	}
	for _, x := range edges {
		if held[x] {
			continue
		}
		if c, _, e = clock.Certify(c, x); e != api.OK {
			return api.Clock{}, e
		}
	}
	return c, api.OK
}

// certsOf are the certificates of a clock.
func certsOf(c api.Clock) map[api.Cert]bool {
	var list []api.Cert
	for _, h := range c.Certs.List {
		list = append(list, h.Cert)
	}
	return setOf(list)
}

func setOf(list []api.Cert) map[api.Cert]bool {
	set := map[api.Cert]bool{}
	for _, x := range list {
		set[x] = true
	}
	return set
}

func clone(c api.Clock) api.Clock {
	s := c.Agenda.Slots
	s = api.Slots{Uses: slices.Clone(s.Uses), Used: slices.Clone(s.Used), Free: slices.Clone(s.Free)}
	return api.Clock{
		Now:    c.Now,
		Field:  api.Field{Points: slices.Clone(c.Field.Points)},
		Certs:  api.Certs{Next: c.Certs.Next, List: slices.Clone(c.Certs.List)},
		Agenda: api.Agenda{Slots: s, Heap: slices.Clone(c.Agenda.Heap), Where: slices.Clone(c.Agenda.Where)},
		Due:    slices.Clone(c.Due),
	}
}
