package clock

import (
	"cmp"
	"slices"

	"peloton/agenda"
	"peloton/api"
	"peloton/cert"
)

// timed is a clock in which a certificate has its event at its failure time from Now on, or none if it has no such time. Before, it may have had an event at any time, or none.
func timed(c api.Clock, h api.Held) (api.Clock, api.Errno) {
	at, fails := failure(c, h.Cert)
	i, had := findDue(c.Due, h.Number)
	switch {
	case fails && had:
		var e api.Errno
		c.Agenda, e = agenda.Rekey(c.Agenda, c.Due[i].Handle, at)
		return c, e
	case fails:
		return pushed(c, at, h.Number)
	}
	return eventless(c, h.Number), api.OK
}

// pushed is a clock with the event of a certificate that had none.
func pushed(c api.Clock, at api.Ratio, number int) (api.Clock, api.Errno) {
	a, h, e := agenda.Push(c.Agenda, at, number)
	if e != api.OK {
		return api.Clock{}, e
	}
	i, _ := findDue(c.Due, number)
	c.Agenda = a
	c.Due = slices.Concat(c.Due[:i], []api.Due{{Number: number, Handle: h}}, c.Due[i:])
	return c, api.OK
}

// eventless is a clock without the event of a certificate, if it has one.
func eventless(c api.Clock, number int) api.Clock {
	i, had := findDue(c.Due, number)
	if !had {
		return c
	}
	// The handles of Due are live, so there is no error.
	c.Agenda, _, _ = agenda.Remove(c.Agenda, c.Due[i].Handle)
	c.Due = slices.Concat(c.Due[:i], c.Due[i+1:])
	return c
}

// retired is a valid clock without the certificate with a number and without its event, in new memory; and this certificate.
func retired(c api.Clock, number int) (api.Clock, api.Cert, api.Errno) {
	certs, x, e := cert.Remove(c.Certs, number)
	if e != api.OK {
		return api.Clock{}, api.Cert{}, e
	}
	r := eventless(clone(c), number)
	r.Certs = certs
	return r, x, api.OK
}

// findDue returns the place of a number in Due, and whether it is there; otherwise the place at which it belongs.
func findDue(list []api.Due, number int) (int, bool) {
	return slices.BinarySearchFunc(list, number, func(d api.Due, number int) int {
		return cmp.Compare(d.Number, number)
	})
}

func clone(c api.Clock) api.Clock {
	return api.Clock{
		Now:    c.Now,
		Field:  cloneField(c.Field),
		Certs:  api.Certs{Next: c.Certs.Next, List: slices.Clone(c.Certs.List)},
		Agenda: cloneAgenda(c.Agenda),
		Due:    slices.Clone(c.Due),
	}
}

func cloneField(f api.Field) api.Field {
	return api.Field{Points: slices.Clone(f.Points)}
}

func cloneAgenda(a api.Agenda) api.Agenda {
	s := api.Slots{Uses: slices.Clone(a.Slots.Uses), Used: slices.Clone(a.Slots.Used), Free: slices.Clone(a.Slots.Free)}
	return api.Agenda{Slots: s, Heap: slices.Clone(a.Heap), Where: slices.Clone(a.Where)}
}
