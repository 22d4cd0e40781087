package cert_test

import (
	"slices"

	"peloton/api"
)

// with is a store after a change of a copy of it.
func with(c api.Certs, change func(c *api.Certs)) api.Certs {
	c = clone(c)
	change(&c)
	return c
}

// each are some stores after a change of one of their certificates: the first one, one in between, and the last one.
func each(change func(h *api.Held)) []api.Certs {
	var list []api.Certs
	for _, c := range []api.Certs{three(), chain(5), chain(200), late(200), of(9, held(4, 1, 2))} {
		for _, i := range []int{0, len(c.List) / 2, len(c.List) - 1} {
			list = append(list, with(c, func(c *api.Certs) { change(&c.List[i]) }))
		}
	}
	return list
}

// tooMany are stores with more than MaxCerts certificates, of which all else is right.
func tooMany() []api.Certs {
	return []api.Certs{chain(201), chain(202), chain(400), chain(5000), late(201), of(limit, append(chain(200).List, held(limit-1, 7, 9))...)}
}

// notCerts are stores with a certificate that is not valid, of which all else is right.
func notCerts() []api.Certs {
	var list []api.Certs
	for _, x := range badCerts() {
		list = append(list, each(func(h *api.Held) { h.Cert = x })...)
	}
	return list
}

// twoTheSame are stores with a certificate that is there twice, side by side or not, of which all else is right.
func twoTheSame() []api.Certs {
	list := []api.Certs{of(2, held(0, 2, 1), held(1, 2, 1)), of(3, held(0, 2, 1), held(1, 1, 2), held(2, 2, 1)), of(3, held(0, 2, 1), held(1, 1, 2), held(2, 1, 2)), of(9, held(3, 0, top), held(7, 0, top))}
	for _, c := range []api.Certs{three(), chain(5), chain(200), late(200)} {
		n := len(c.List)
		for _, pair := range [][2]int{{0, 1}, {0, n - 1}, {n - 2, n - 1}, {n / 3, n / 2}} {
			i, k := pair[0], pair[1]
			if i != k {
				list = append(list, with(c, func(c *api.Certs) { c.List[i].Cert = c.List[k].Cert }), with(c, func(c *api.Certs) { c.List[k].Cert = c.List[i].Cert }))
			}
		}
	}
	return list
}

// notRising are stores whose numbers do not increase strictly: one is there twice, or behind a greater one.
func notRising() []api.Certs {
	list := []api.Certs{of(9, held(3, 2, 1), held(3, 1, 2)), of(9, held(4, 2, 1), held(3, 1, 2)), of(9, held(0, 2, 1), held(0, 1, 2)), of(9, held(8, 2, 1), held(0, 1, 2)), of(limit, held(limit-1, 2, 1), held(limit-1, 1, 2))}
	for _, c := range []api.Certs{three(), chain(5), chain(200), late(200)} {
		for _, i := range []int{1, len(c.List) / 2, len(c.List) - 1} {
			list = append(list,
				with(c, func(c *api.Certs) { c.List[i].Number = c.List[i-1].Number }),
				with(c, func(c *api.Certs) { c.List[i-1].Number = c.List[i].Number }),
				with(c, func(c *api.Certs) { c.List[i], c.List[i-1] = c.List[i-1], c.List[i] }),
				with(c, func(c *api.Certs) { c.List[0], c.List[i] = c.List[i], c.List[0] }),
				with(c, func(c *api.Certs) { slices.Reverse(c.List) }),
			)
		}
	}
	return list
}

// below0 are stores whose first number is below 0; the others are right.
func below0() []api.Certs {
	var list []api.Certs
	for _, n := range []int{-1, -2, -limit, -1 << 32, least} {
		for _, c := range []api.Certs{three(), chain(5), chain(200), late(200), of(9, held(4, 1, 2))} {
			list = append(list, with(c, func(c *api.Certs) { c.List[0].Number = n }))
		}
		list = append(list, of(0, held(n, 2, 1)), of(1, held(n, 2, 1), held(0, 1, 2)))
	}
	return list
}

// notBeforeNext are stores whose last number is Next or more; the others are right.
func notBeforeNext() []api.Certs {
	var list []api.Certs
	for _, c := range []api.Certs{three(), example(), chain(5), chain(200), late(200), of(9, held(4, 1, 2))} {
		last := len(c.List) - 1
		for _, n := range []int{c.Next, c.Next + 1, c.Next + 700, limit, limit + 1, 1 << 32, most} {
			list = append(list, with(c, func(c *api.Certs) { c.List[last].Number = n }))
		}
		for _, next := range []int{c.List[last].Number, c.List[last].Number - 1, 0, -1, least} {
			list = append(list, with(c, func(c *api.Certs) { c.Next = next }))
		}
	}
	return append(list, of(0, held(0, 2, 1)), of(1, held(1, 2, 1)), of(1, held(0, 2, 1), held(1, 1, 2)))
}

// tooHigh are stores whose Next is above MaxUses, of which all else is right.
func tooHigh() []api.Certs {
	var list []api.Certs
	for _, next := range []int{limit + 1, limit + 2, 2 * limit, 1 << 32, most} {
		for _, c := range []api.Certs{{}, three(), chain(200), late(200), of(limit, held(limit-1, 5, 4))} {
			list = append(list, with(c, func(c *api.Certs) { c.Next = next }))
		}
		list = append(list, of(next, held(next-1, 5, 4)), of(limit+1, held(limit, 5, 4)))
	}
	return list
}

// nextBelow0 are stores without certificates that have no number to give out next, as numbers are from 0 on.
func nextBelow0() []api.Certs {
	return []api.Certs{of(-1), of(-2), of(-limit), of(-1 << 32), of(least), of(-1, []api.Held{}...)}
}

// badStores are stores that are not valid, for each reason, by its name.
func badStores() map[string][]api.Certs {
	return map[string][]api.Certs{
		"too many certificates":            tooMany(),
		"a certificate that is not valid":  notCerts(),
		"two the same":                     twoTheSame(),
		"numbers that do not increase":     notRising(),
		"a number below 0":                 below0(),
		"a number that is Next or more":    notBeforeNext(),
		"Next above MaxUses":               tooHigh(),
		"Next below 0":                     nextBelow0(),
		"nothing that is right":            {of(least, slices.Repeat([]api.Held{held(-1, 7, 7)}, 300)...), of(most, held(most, most, most), held(least, most, most))},
		"certificates without any numbers": {of(0, make([]api.Held, 1)...), of(0, make([]api.Held, 200)...), of(1, make([]api.Held, 1)...), of(0, make([]api.Held, 100000)...)},
	}
}

// allStores are valid and other ones, in the same order in each run.
func allStores() []api.Certs {
	list := goodStores()
	bad := badStores()
	var reasons []string
	for reason := range bad {
		reasons = append(reasons, reason)
	}
	slices.Sort(reasons)
	for _, reason := range reasons {
		list = append(list, bad[reason]...)
	}
	return list
}

// spoiled is a valid store in which one thing or two are others, so that it is valid no more, mostly.
func (m *mixer) spoiled(n int) api.Certs {
	c := m.store(n, m.ids())
	for range 1 + m.below(2) {
		m.spoil(&c)
	}
	return c
}

// ids are some that are close to each other, so that much is said of the same points, or others.
func (m *mixer) ids() []int {
	return [][]int{numbers(1, 2, 3), few(), numbers(0, top)}[m.below(3)]
}

func (m *mixer) spoil(c *api.Certs) {
	n := len(c.List)
	if n == 0 || m.below(5) == 0 {
		c.Next = m.pick(-1, 0, c.Next-1, c.Next+1, limit, limit+1)
		return
	}
	i, k := m.below(n), m.below(n)
	switch m.below(7) {
	case 0:
		c.List[i].Number = m.pick(-1, 0, c.List[k].Number, c.List[k].Number+1, c.List[i].Number-1, c.Next-1, c.Next)
	case 1:
		c.List[i].Cert = c.List[k].Cert
	case 2:
		c.List[i].Cert = turned(c.List[k].Cert)
	case 3:
		c.List[i].Cert.Low = m.pick(-1, 0, top, top+1, c.List[i].Cert.High)
	case 4:
		c.List[i].Cert.High = m.pick(-1, 0, top, top+1, c.List[i].Cert.Low)
	case 5:
		c.List[i], c.List[k] = c.List[k], c.List[i]
	case 6:
		c.List = append(c.List, api.Held{Number: m.pick(c.Next-1, c.Next, c.List[n-1].Number+1), Cert: m.cert(few())})
	}
}
