package cert_test

import (
	"math"
	"slices"
	"testing"

	"peloton/api"
	"peloton/cert"
)

const (
	most  = math.MaxInt64
	least = math.MinInt64
	limit = api.MaxUses
	top   = api.MaxID
	coord = api.MaxCoord
)

// over says that high is ahead of low, valid or not.
func over(high, low int) api.Cert {
	return api.Cert{Low: low, High: high}
}

// turned is a certificate with Low and High exchanged.
func turned(x api.Cert) api.Cert {
	return over(x.Low, x.High)
}

// held is a certificate with its number as they are written, valid or not.
func held(number, high, low int) api.Held {
	return api.Held{Number: number, Cert: over(high, low)}
}

// of is a store as it is written, valid or not.
func of(next int, list ...api.Held) api.Certs {
	return api.Certs{Next: next, List: list}
}

func numbers(n ...int) []int { return n }

// three is a valid store in which numbers are missing in front, between and behind, with a certificate and the exchanged one.
func three() api.Certs {
	return of(9, held(2, 2, 1), held(3, 1, 2), held(7, 2, 3))
}

// example is the store of the chapter's examples.
func example() api.Certs {
	return of(2, held(0, 2, 1), held(1, 2, 3))
}

// chain is a store of n certificates, of which the one with the number i says that i + 1 is ahead of i.
func chain(n int) api.Certs {
	c := of(n)
	for i := range n {
		c.List = append(c.List, held(i, i+1, i))
	}
	return c
}

// late is a store of n certificates with the last numbers that there are.
func late(n int) api.Certs {
	c := of(limit)
	for i := range n {
		c.List = append(c.List, held(limit-n+i, i, top-i))
	}
	return c
}

func same(a, b api.Certs) bool {
	return a.Next == b.Next && slices.Equal(a.List, b.List)
}

func clone(c api.Certs) api.Certs {
	return of(c.Next, slices.Clone(c.List)...)
}

// mixer makes numbers that look mixed, the same ones in each run.
type mixer uint64

func (m *mixer) below(n int) int {
	*m = *m*6364136223846793005 + 1442695040888963407
	return int((uint64(*m) ^ uint64(*m)>>29) >> 1 % uint64(n))
}

// pick is one of some numbers.
func (m *mixer) pick(list ...int) int {
	return list[m.below(len(list))]
}

// cert is a valid certificate about some IDs, of which there are at least two.
func (m *mixer) cert(ids []int) api.Cert {
	i, k := m.below(len(ids)), m.below(len(ids)-1)
	if k >= i {
		k++
	}
	return over(ids[i], ids[k])
}

// few are IDs close to each other and at both ends.
func few() []int {
	return numbers(0, 1, 2, 3, 4, 5, 6, 700, 65533, top-1, top)
}

// store is a valid store of at most n certificates about some IDs, and of no more than there may be, with numbers that may be missing.
func (m *mixer) store(n int, ids []int) api.Certs {
	seen := map[api.Cert]bool{}
	number := m.pick(0, 0, 1, m.below(9), m.below(limit/2))
	var c api.Certs
	for range n {
		x := m.cert(ids)
		if !seen[x] && len(c.List) < 200 {
			c.List = append(c.List, api.Held{Number: number, Cert: x})
			number += m.pick(1, 1, 1, 2, 1+m.below(40))
		}
		seen[x] = true
	}
	c.Next = m.pick(number, number, number+1, number+m.below(90), limit)
	return c
}

// goodStores are valid ones, up to both ends of all that is limited.
func goodStores() []api.Certs {
	list := []api.Certs{
		{}, of(0, []api.Held{}...), of(1), of(77), of(limit - 1), of(limit), three(), example(),
		of(1, held(0, 0, top)), of(1, held(0, top, 0)), of(2, held(0, 0, 1)), of(2, held(1, 1, 0)), of(limit, held(0, 5, 4)), of(limit, held(limit-1, 5, 4)), of(limit-1, held(limit-2, 5, 4)),
		of(2, held(0, 0, top), held(1, top, 0)), of(limit, held(0, 3, 4), held(limit-1, 3, 5)), of(limit, held(limit-2, 3, 4), held(limit-1, 4, 3)),
	}
	for _, n := range []int{1, 2, 3, 7, 64, 198, 199, 200} {
		list = append(list, chain(n), late(n))
	}
	m := mixer(8)
	for _, n := range []int{1, 1, 2, 2, 3, 3, 4, 5, 6, 9, 15, 40, 90, 150, 199, 200} {
		for range 8 {
			list = append(list, m.store(n, few()), m.store(n, numbers(1, 2, 3)), m.store(n, idsOf(anyField(&m, 64))))
		}
	}
	return list
}

// goodCerts are valid certificates.
func goodCerts() []api.Cert {
	return []api.Cert{over(0, 1), over(1, 0), over(0, top), over(top, 0), over(top-1, top), over(2, 1), over(1, 2), over(3, 2), over(2, 3), over(700, 4), over(32768, 32767)}
}

// badCerts are certificates that are not valid, each one for another reason, or for several.
func badCerts() []api.Cert {
	list := []api.Cert{{}, over(1, 1), over(top, top), over(700, 700), over(-1, -1), over(top+1, top+1), over(-1, top+1), over(least, most)}
	for _, id := range []int{-1, -2, -700, least, least + 1, top + 1, top + 2, 1 << 17, 1<<32 + 1, -1 << 32, most} {
		for _, other := range []int{0, 1, 700, top} {
			list = append(list, over(id, other), over(other, id))
		}
	}
	return list
}

// badCert reports whether a certificate is not valid, by the definition.
func badCert(x api.Cert) bool {
	return x.Low < 0 || x.High < 0 || x.Low > 65535 || x.High > 65535 || x.Low == x.High
}

// isValid follows the definition of a valid store; Next, the number that comes next, is from 0 on as numbers are.
func isValid(c api.Certs) bool {
	if len(c.List) > 200 || c.Next < 0 || c.Next > 1000000 {
		return false
	}
	for i, h := range c.List {
		if badCert(h.Cert) || h.Number < 0 || h.Number >= c.Next {
			return false
		}
		for _, g := range c.List[:i] {
			if g.Number >= h.Number || g.Cert.Low == h.Cert.Low && g.Cert.High == h.Cert.High {
				return false
			}
		}
	}
	return true
}

// someNumbers are those of a valid store, the ones beside them, and others, up to both ends.
func someNumbers(c api.Certs) []int {
	list := numbers(-1, -2, least, most, 0, 1, c.Next-1, c.Next, c.Next+1, limit-1, limit, limit+1, 1<<32, -1<<32)
	for i := 0; i < len(c.List); i += 1 + len(c.List)/30 {
		n := c.List[i].Number
		list = append(list, n, n-1, n+1, -n, n+1<<32)
	}
	if n := len(c.List); n > 0 {
		list = append(list, c.List[n-1].Number)
	}
	return list
}

// enough fails if something was seen so seldom that it was hardly tested.
func enough(t *testing.T, seen int) {
	t.Helper()
	if seen < 1000 {
		t.Error("seen only", seen)
	}
}

// add is Add of a certificate for which there is room.
func add(t *testing.T, c api.Certs, x api.Cert) (api.Certs, int) {
	t.Helper()
	r, n, e := cert.Add(c, x)
	if e != api.OK {
		t.Fatal(c, x, e)
	}
	return r, n
}

// remove is Remove of a number that is there.
func remove(t *testing.T, c api.Certs, number int) (api.Certs, api.Cert) {
	t.Helper()
	r, x, e := cert.Remove(c, number)
	if e != api.OK {
		t.Fatal(c, number, e)
	}
	return r, x
}

// numbersOf is Of of a valid store.
func numbersOf(t *testing.T, c api.Certs, id int) []int {
	t.Helper()
	list, e := cert.Of(c, id)
	if e != api.OK {
		t.Fatal(c, id, e)
	}
	return list
}

// holding is Holds of a valid store, with a valid field that has all points, and a valid time.
func holding(t *testing.T, c api.Certs, f api.Field, at api.Ratio) []int {
	t.Helper()
	list, e := cert.Holds(c, f, at)
	if e != api.OK {
		t.Fatal(c, f, at, e)
	}
	return list
}
