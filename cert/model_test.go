package cert_test

import (
	"slices"

	"peloton/api"
)

// The functions here follow the promises word by word, for a valid store, and look at all certificates one by one.

// afterAdding is what Add returns.
func afterAdding(c api.Certs, x api.Cert) (api.Certs, int, api.Errno) {
	if badCert(x) {
		return api.Certs{}, 0, api.ErrBad
	}
	for _, h := range c.List {
		if h.Cert.Low == x.Low && h.Cert.High == x.High {
			return api.Certs{}, 0, api.ErrTwice
		}
	}
	if len(c.List) >= 200 || c.Next >= 1000000 {
		return api.Certs{}, 0, api.ErrFull
	}
	return of(c.Next+1, append(slices.Clone(c.List), held(c.Next, x.High, x.Low))...), c.Next, api.OK
}

// found is what Get returns.
func found(c api.Certs, number int) (api.Cert, api.Errno) {
	for _, h := range c.List {
		if h.Number == number {
			return h.Cert, api.OK
		}
	}
	return api.Cert{}, api.ErrNone
}

// afterRemoving is what Remove returns.
func afterRemoving(c api.Certs, number int) (api.Certs, api.Cert, api.Errno) {
	x, e := found(c, number)
	if e != api.OK {
		return api.Certs{}, api.Cert{}, e
	}
	r := of(c.Next)
	for _, h := range c.List {
		if h.Number != number {
			r.List = append(r.List, h)
		}
	}
	return r, x, api.OK
}

// naming is what Of returns.
func naming(c api.Certs, id int) []int {
	var list []int
	for _, h := range c.List {
		for _, end := range []int{h.Cert.Low, h.Cert.High} {
			if end == id {
				list = append(list, h.Number)
			}
		}
	}
	return list
}

// holds is what Holds returns.
func holds(c api.Certs, f api.Field, at api.Ratio) ([]int, api.Errno) {
	if e := fieldError(f); e != api.OK {
		return nil, e
	}
	if !isTime(at) {
		return nil, api.ErrBad
	}
	var list []int
	for _, h := range c.List {
		low, high := indexOf(f, h.Cert.Low), indexOf(f, h.Cert.High)
		if low < 0 || high < 0 {
			return nil, api.ErrNone
		}
		if isAhead(f.Points[high], f.Points[low], at) {
			list = append(list, h.Number)
		}
	}
	return list, api.OK
}
