package cert_test

import (
	"slices"
	"testing"

	"peloton/api"
	"peloton/cert"
)

func wantAdd(t *testing.T, c api.Certs, x api.Cert, want api.Certs, number int, e api.Errno) {
	t.Helper()
	if r, n, f := cert.Add(c, x); !same(r, want) || n != number || f != e {
		t.Fatal("add", c, x, r, n, f, want, number, e)
	}
}

func wantNoAdd(t *testing.T, c api.Certs, x api.Cert, e api.Errno) {
	t.Helper()
	wantAdd(t, c, x, api.Certs{}, 0, e)
}

func wantRemove(t *testing.T, c api.Certs, number int, want api.Certs, x api.Cert, e api.Errno) {
	t.Helper()
	if r, y, f := cert.Remove(c, number); !same(r, want) || y != x || f != e {
		t.Fatal("remove", c, number, r, y, f, want, x, e)
	}
}

func wantGet(t *testing.T, c api.Certs, number int, x api.Cert, e api.Errno) {
	t.Helper()
	if y, f := cert.Get(c, number); y != x || f != e {
		t.Fatal("get", c, number, y, f, x, e)
	}
}

// P8.2: Add puts a certificate behind the others, and gives it Next.
func TestAdd(t *testing.T) {
	old := three().List
	wantAdd(t, three(), over(3, 2), of(10, old[0], old[1], old[2], held(9, 3, 2)), 9, api.OK)
	wantAdd(t, three(), over(0, top), of(10, old[0], old[1], old[2], held(9, 0, top)), 9, api.OK)
	wantAdd(t, three(), over(top, 0), of(10, old[0], old[1], old[2], held(9, top, 0)), 9, api.OK)
	// With one of the points that are named there, or both of them from two certificates.
	wantAdd(t, three(), over(1, 3), of(10, old[0], old[1], old[2], held(9, 1, 3)), 9, api.OK)
	wantAdd(t, three(), over(3, 1), of(10, old[0], old[1], old[2], held(9, 3, 1)), 9, api.OK)
	wantAdd(t, of(5), over(4, 8), of(6, held(5, 4, 8)), 5, api.OK)
	wantAdd(t, of(0), over(4, 8), of(1, held(0, 4, 8)), 0, api.OK)
}

// P8.2: the certificate with Low and High exchanged is another one.
func TestAddTurned(t *testing.T) {
	for _, x := range goodCerts() {
		one, n := add(t, cert.New(), x)
		two, k := add(t, one, turned(x))
		if n != 0 || k != 1 || !same(two, of(2, held(0, x.High, x.Low), held(1, x.Low, x.High))) {
			t.Error(x, two, n, k)
		}
		wantNoAdd(t, two, x, api.ErrTwice)
		wantNoAdd(t, two, turned(x), api.ErrTwice)
	}
}

// P8.2: a certificate that is not valid is ErrBad, whatever is there.
func TestAddBad(t *testing.T) {
	for _, c := range goodStores() {
		for _, x := range badCerts() {
			wantNoAdd(t, c, x, api.ErrBad)
		}
	}
}

// P8.2: a certificate that is there, at each place, is ErrTwice, also in a store that is full.
func TestAddTwice(t *testing.T) {
	full := 0
	for _, c := range goodStores() {
		for _, h := range c.List {
			wantNoAdd(t, c, h.Cert, api.ErrTwice)
		}
		if len(c.List) == 200 || c.Next == limit {
			full += len(c.List)
		}
	}
	enough(t, full)
}

// P8.2: a store is full with MaxCerts certificates, or if Next is MaxUses.
func TestAddFull(t *testing.T) {
	apart := over(9, 4)
	for _, c := range []api.Certs{
		chain(200), late(200), late(199), late(1), of(limit), of(limit, held(0, 1, 2)), of(limit, held(5, 1, 2), held(limit-1, 2, 1)), of(limit, chain(199).List...), of(limit-1, chain(200).List...), of(limit, chain(200).List...),
	} {
		wantNoAdd(t, c, apart, api.ErrFull)
		wantNoAdd(t, c, turned(apart), api.ErrFull)
	}
	// One below either limit there is room.
	wantAdd(t, chain(199), apart, of(200, append(chain(199).List, held(199, 9, 4))...), 199, api.OK)
	wantAdd(t, of(limit-1, chain(199).List...), apart, of(limit, append(chain(199).List, held(limit-1, 9, 4))...), limit-1, api.OK)
	wantAdd(t, of(limit-1), apart, of(limit, held(limit-1, 9, 4)), limit-1, api.OK)
	// With certificates taken out of a full store there is room again, but no number where Next is MaxUses.
	c, _ := remove(t, chain(200), 7)
	wantAdd(t, c, apart, of(201, append(slices.Delete(chain(200).List, 7, 8), held(200, 9, 4))...), 200, api.OK)
	c, _ = remove(t, late(200), limit-1)
	wantNoAdd(t, c, apart, api.ErrFull)
}

// P8.2: what is added comes first as not valid, then as there, and then without room.
func TestAddErrors(t *testing.T) {
	for _, c := range []api.Certs{chain(200), late(200), late(5), of(limit, held(3, 2, 1))} {
		for _, x := range badCerts() {
			wantNoAdd(t, c, x, api.ErrBad)
		}
		for _, h := range c.List {
			wantNoAdd(t, c, h.Cert, api.ErrTwice)
			if !slices.ContainsFunc(c.List, func(g api.Held) bool { return g.Cert == turned(h.Cert) }) {
				wantNoAdd(t, c, turned(h.Cert), api.ErrFull)
			}
		}
	}
}

// P8.2: Add, against the promise.
func TestAddByPromise(t *testing.T) {
	m := mixer(82)
	seen := map[api.Errno]int{}
	for i := range 20000 {
		c := m.store(1+i%9, m.ids())
		if i%3 == 0 {
			c = m.store(230, idsOf(anyField(&m, 40)))
		}
		x := m.cert(m.ids())
		if m.below(5) == 0 {
			x = badCerts()[m.below(len(badCerts()))]
		}
		want, n, e := afterAdding(c, x)
		wantAdd(t, c, x, want, n, e)
		seen[e]++
	}
	for _, e := range []api.Errno{api.OK, api.ErrBad, api.ErrTwice, api.ErrFull} {
		enough(t, seen[e])
	}
}

// P8.2: Get and Remove of the first number, of one in between, of the last one, of one that was removed, and of those that no certificate has.
func TestGetAndRemove(t *testing.T) {
	list := three().List
	wantGet(t, three(), 2, over(2, 1), api.OK)
	wantGet(t, three(), 3, over(1, 2), api.OK)
	wantGet(t, three(), 7, over(2, 3), api.OK)
	wantRemove(t, three(), 2, of(9, list[1], list[2]), over(2, 1), api.OK)
	wantRemove(t, three(), 3, of(9, list[0], list[2]), over(1, 2), api.OK)
	wantRemove(t, three(), 7, of(9, list[0], list[1]), over(2, 3), api.OK)
	wantRemove(t, of(1, held(0, 5, 6)), 0, of(1), over(5, 6), api.OK)
	wantRemove(t, of(limit, held(limit-1, 5, 6)), limit-1, of(limit), over(5, 6), api.OK)
	for _, n := range []int{least, -1 << 32, -2, -1, 0, 1, 4, 5, 6, 8, 9, 10, limit - 1, limit, limit + 1, 1<<32 + 2, most} {
		wantGet(t, three(), n, api.Cert{}, api.ErrNone)
		wantRemove(t, three(), n, api.Certs{}, api.Cert{}, api.ErrNone)
	}
	for _, h := range list {
		c, _ := remove(t, three(), h.Number)
		wantGet(t, c, h.Number, api.Cert{}, api.ErrNone)
		wantRemove(t, c, h.Number, api.Certs{}, api.Cert{}, api.ErrNone)
	}
}

// P8.2: Get and Remove of each number of a store with the most certificates, and of those on both sides.
func TestGetAndRemoveOfMost(t *testing.T) {
	for _, c := range []api.Certs{chain(200), late(200)} {
		for i, h := range c.List {
			wantGet(t, c, h.Number, h.Cert, api.OK)
			wantRemove(t, c, h.Number, of(c.Next, slices.Delete(slices.Clone(c.List), i, i+1)...), h.Cert, api.OK)
		}
		for _, n := range []int{c.List[0].Number - 1, c.Next, c.Next + 1} {
			wantGet(t, c, n, api.Cert{}, api.ErrNone)
			wantRemove(t, c, n, api.Certs{}, api.Cert{}, api.ErrNone)
		}
	}
}

// P8.2: Get and Remove, against the promise.
func TestGetAndRemoveByPromise(t *testing.T) {
	there, none := 0, 0
	for _, c := range goodStores() {
		for _, n := range someNumbers(c) {
			x, e := found(c, n)
			wantGet(t, c, n, x, e)
			want, y, f := afterRemoving(c, n)
			wantRemove(t, c, n, want, y, f)
			if e == api.OK {
				there++
			} else {
				none++
			}
		}
	}
	enough(t, there)
	enough(t, none)
}
