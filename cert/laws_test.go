package cert_test

import (
	"slices"
	"testing"

	"peloton/api"
	"peloton/cert"
	"peloton/course"
	"peloton/field"
)

// book keeps all that was said of a store: the certificates that are there, by their numbers, and the numbers of those that were.
type book struct {
	c    api.Certs
	list []api.Held
	old  []int
}

// open is the book of a valid store with what is in it.
func open(c api.Certs) *book {
	return &book{c: c, list: slices.Clone(c.List)}
}

// adding is the book after a certificate was added, if it could be.
func (b *book) adding(t *testing.T, x api.Cert) {
	t.Helper()
	c, n, e := cert.Add(b.c, x)
	if e == api.ErrFull || e == api.ErrTwice {
		return
	}
	isN := func(h api.Held) bool { return h.Number == n }
	if e != api.OK || slices.Contains(b.old, n) || slices.ContainsFunc(b.list, isN) {
		t.Fatal("a number comes again", b, x, n, e)
	}
	b.c, b.list = c, append(b.list, api.Held{Number: n, Cert: x})
}

// removing is the book after the certificate with an index of the list was removed.
func (b *book) removing(t *testing.T, i int) {
	t.Helper()
	h := b.list[i]
	c, x := remove(t, b.c, h.Number)
	if x != h.Cert {
		t.Fatal("not this one", b, h, x)
	}
	b.c, b.list, b.old = c, slices.Delete(b.list, i, i+1), append(b.old, h.Number)
}

// check fails unless the store is valid, all certificates are found under their numbers, and none under those that were.
func (b *book) check(t *testing.T) {
	t.Helper()
	if e := cert.Check(b.c); e != api.OK || !isValid(b.c) || len(b.c.List) != len(b.list) {
		t.Fatal(b, e)
	}
	for _, h := range b.list {
		wantGet(t, b.c, h.Number, h.Cert, api.OK)
	}
	for _, n := range b.old {
		wantGet(t, b.c, n, api.Cert{}, api.ErrNone)
		wantRemove(t, b.c, n, api.Certs{}, api.Cert{}, api.ErrNone)
	}
}

// P8.4: numbers are never given out twice, and a certificate is found from when it was added until it is removed, whatever is added and removed in between.
func TestBooks(t *testing.T) {
	m := mixer(84)
	added, removed := 0, 0
	for i := range 150 {
		ids := m.ids()
		b := open(m.store(i%12, ids))
		for range 60 {
			// Phases in which more is added, and others in which more goes.
			if m.below(10) < 2+i%7 {
				b.adding(t, m.cert(ids))
			} else if len(b.list) > 0 {
				b.removing(t, m.below(len(b.list)))
			}
			b.check(t)
			added += len(b.list)
			removed += len(b.old)
		}
	}
	enough(t, added)
	enough(t, removed)
}

// P8.4: the same certificate, added and removed again and again, gets another number each time, also where no other one is there.
func TestSameAgain(t *testing.T) {
	for _, c := range []api.Certs{{}, three(), chain(199), of(limit - 300)} {
		x := over(700, 4)
		for i := range 200 {
			r, n := add(t, c, x)
			if n != c.Next || n != r.Next-1 {
				t.Fatal(i, c, r, n)
			}
			var y api.Cert
			if c, y = remove(t, r, n); y != x || c.Next != n+1 {
				t.Fatal(i, c, y)
			}
			wantGet(t, c, n, api.Cert{}, api.ErrNone)
		}
	}
}

// P8.4: the last number is MaxUses - 1; then no certificate is added any more, also if all are removed, as their numbers would come again.
func TestNoNumberIsLeft(t *testing.T) {
	c := of(limit-3, held(5, 2, 1))
	for i, x := range []api.Cert{over(1, 2), over(1, 3), over(3, 1)} {
		r, n := add(t, c, x)
		if c = r; n != limit-3+i {
			t.Fatal(c, n)
		}
	}
	for len(c.List) > 0 {
		wantNoAdd(t, c, over(4, 5), api.ErrFull)
		c, _ = remove(t, c, c.List[len(c.List)-1].Number)
	}
	wantNoAdd(t, c, over(4, 5), api.ErrFull)
	if !same(c, of(limit)) {
		t.Error(c)
	}
}

// P8.4: each certificate is in the lists of its two points, and in no other ones.
func TestListsOfPoints(t *testing.T) {
	in, out := 0, 0
	for _, c := range goodStores() {
		ids := append(few(), -1, top+1)
		for _, h := range c.List {
			ids = append(ids, h.Cert.Low, h.Cert.High)
		}
		slices.Sort(ids)
		ids = slices.Compact(ids)
		for i := 0; i < len(ids); i += 1 + len(ids)/30 {
			id := ids[i]
			list := numbersOf(t, c, id)
			for _, h := range c.List {
				named := h.Cert.Low == id || h.Cert.High == id
				if slices.Contains(list, h.Number) != named {
					t.Fatal(c, id, h, list)
				}
				if named {
					in++
				} else {
					out++
				}
			}
			if !slices.IsSorted(list) || len(slices.Compact(list)) != len(list) {
				t.Fatal(c, id, list)
			}
		}
	}
	enough(t, in)
	enough(t, out)
}

// P8.4: what is added or removed comes to the lists of its two points, or goes from them, and changes no other one; nor does it change other certificates.
func TestOthersStay(t *testing.T) {
	m := mixer(85)
	seen := 0
	without := func(list []int, n int) []int {
		return slices.DeleteFunc(slices.Clone(list), func(k int) bool { return k == n })
	}
	stays := func(with, rest api.Certs, h api.Held) {
		t.Helper()
		for _, g := range with.List {
			if g != h {
				wantGet(t, rest, g.Number, g.Cert, api.OK)
				wantGet(t, with, g.Number, g.Cert, api.OK)
			}
		}
		for _, id := range few() {
			list := numbersOf(t, with, id)
			if named := id == h.Cert.Low || id == h.Cert.High; named != slices.Contains(list, h.Number) {
				t.Fatal(with, h, id, list)
			}
			wantOf(t, rest, id, without(list, h.Number), api.OK)
			seen++
		}
	}
	for range 200 {
		c := m.store(1+m.below(20), few())
		if x := m.cert(few()); !slices.ContainsFunc(c.List, func(h api.Held) bool { return h.Cert == x }) && c.Next < limit {
			r, n := add(t, c, x)
			stays(r, c, api.Held{Number: n, Cert: x})
		}
		for _, h := range c.List {
			r, x := remove(t, c, h.Number)
			if x != h.Cert {
				t.Fatal(c, h, x)
			}
			stays(c, r, h)
		}
	}
	enough(t, seen)
}

// P8.4: what is added and removed leaves the store as it was, but for Next; what is removed and added again is behind the others, with another number.
func TestThereAndBack(t *testing.T) {
	for _, c := range goodStores() {
		if len(c.List) == 200 || c.Next == limit {
			continue
		}
		// No store that is tested has these IDs.
		r, n := add(t, c, over(60000, 60001))
		if back, _ := remove(t, r, n); !same(back, of(c.Next+1, c.List...)) {
			t.Fatal(c, back)
		}
		for i, h := range c.List {
			r, x := remove(t, c, h.Number)
			again, n := add(t, r, x)
			want := append(slices.Delete(slices.Clone(c.List), i, i+1), api.Held{Number: c.Next, Cert: h.Cert})
			if n != c.Next || !same(again, of(c.Next+1, want...)) {
				t.Fatal(c, h, again, n)
			}
		}
	}
}

// P8.4: of a certificate and the one with Low and High exchanged just one holds, at each time.
func TestJustOneHolds(t *testing.T) {
	seen := 0
	forHolds(func(c api.Certs, f api.Field, at api.Ratio) {
		both := of(2 * len(c.List))
		for i, h := range c.List[:min(len(c.List), 100)] {
			// The number of a certificate is even, and that of the exchanged one comes next; those that are there themselves are left out.
			if !slices.ContainsFunc(both.List, func(g api.Held) bool { return g.Cert == h.Cert }) {
				both.List = append(both.List, held(2*i, h.Cert.High, h.Cert.Low), held(2*i+1, h.Cert.Low, h.Cert.High))
			}
		}
		list := holding(t, both, f, at)
		for i := 0; i < len(both.List); i += 2 {
			n := both.List[i].Number
			if slices.Contains(list, n) == slices.Contains(list, n+1) {
				t.Fatal(both, f, at, list)
			}
			seen++
		}
		if len(list) != len(both.List)/2 {
			t.Fatal(both, f, at, list)
		}
	})
	enough(t, seen)
}

// P8.3 and P8.4: a certificate holds if High is ahead of Low by layer 2, and so comes before it in the order of layer 3.
func TestHoldsByLowerLayers(t *testing.T) {
	yes, no := 0, 0
	forHolds(func(c api.Certs, f api.Field, at api.Ratio) {
		list := holding(t, c, f, at)
		order, e := field.Order(f, at)
		if e != api.OK {
			t.Fatal(f, at, e)
		}
		for _, h := range c.List {
			ahead, e := course.Ahead(f.Points[indexOf(f, h.Cert.High)], f.Points[indexOf(f, h.Cert.Low)], at)
			before := slices.Index(order, h.Cert.High) < slices.Index(order, h.Cert.Low)
			if is := slices.Contains(list, h.Number); e != api.OK || is != ahead || is != before {
				t.Fatal(c, f, at, h, list)
			}
			if ahead {
				yes++
			} else {
				no++
			}
		}
	})
	enough(t, yes)
	enough(t, no)
}

// P8.4: what holds does not depend on other certificates, nor on other points.
func TestHoldsAlone(t *testing.T) {
	seen := 0
	forHolds(func(c api.Certs, f api.Field, at api.Ratio) {
		list := holding(t, c, f, at)
		for i := 0; i < len(c.List); i += 1 + len(c.List)/6 {
			h := c.List[i]
			pair := points(f.Points[indexOf(f, min(h.Cert.Low, h.Cert.High))], f.Points[indexOf(f, max(h.Cert.Low, h.Cert.High))])
			alone := holding(t, of(c.Next, h), pair, at)
			if slices.Contains(list, h.Number) != (len(alone) == 1) {
				t.Fatal(c, f, at, h, list, alone)
			}
			seen++
		}
	})
	enough(t, seen)
}

// The examples of the chapter.
func TestExamples(t *testing.T) {
	c, first := add(t, cert.New(), over(2, 1))
	c, second := add(t, c, over(2, 3))
	if first != 0 || second != 1 || !same(c, example()) {
		t.Error(c, first, second)
	}
	wantOf(t, c, 2, numbers(0, 1), api.OK)
	wantOf(t, c, 1, numbers(0), api.OK)
	wantOf(t, c, 3, numbers(1), api.OK)
	wantHolds(t, c, standing(), whole(0), numbers(0), api.OK)
	c, x := remove(t, c, 0)
	if x != over(2, 1) {
		t.Error(x)
	}
	c, next := add(t, c, over(2, 1))
	if next != 2 || !same(c, of(3, held(1, 2, 3), held(2, 2, 1))) {
		t.Error(c, next)
	}
	wantHolds(t, c, standing(), whole(0), numbers(2), api.OK)
}
