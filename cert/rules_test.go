package cert_test

import (
	"slices"
	"testing"

	"peloton/api"
	"peloton/cert"
)

// question is what is asked of a store.
type question struct {
	x      api.Cert
	number int
	id     int
	f      api.Field
	at     api.Ratio
}

// answer is all that the functions return for some arguments.
type answer struct {
	added, removed api.Certs
	number         int
	gone, got      api.Cert
	of, holds      []int
	errors         [6]api.Errno
}

func ask(c api.Certs, q question) answer {
	var y answer
	y.errors[0] = cert.Check(c)
	y.added, y.number, y.errors[1] = cert.Add(c, q.x)
	y.removed, y.gone, y.errors[2] = cert.Remove(c, q.number)
	y.got, y.errors[3] = cert.Get(c, q.number)
	y.of, y.errors[4] = cert.Of(c, q.id)
	y.holds, y.errors[5] = cert.Holds(c, q.f, q.at)
	return y
}

// allBad is the answer for a store that is not valid.
func allBad() answer {
	var y answer
	for i := range y.errors {
		y.errors[i] = api.ErrBad
	}
	return y
}

// wanted is what the functions should return, by the definitions: the error that is named first, and nothing else with it.
func wanted(c api.Certs, q question) answer {
	if !isValid(c) {
		return allBad()
	}
	var y answer
	y.added, y.number, y.errors[1] = afterAdding(c, q.x)
	y.removed, y.gone, y.errors[2] = afterRemoving(c, q.number)
	y.got, y.errors[3] = found(c, q.number)
	y.of = naming(c, q.id)
	y.holds, y.errors[5] = holds(c, q.f, q.at)
	return y
}

// kept is a copy, as otherwise a result that is written over later would look right.
func (y answer) kept() answer {
	y.added, y.removed, y.of, y.holds = clone(y.added), clone(y.removed), slices.Clone(y.of), slices.Clone(y.holds)
	return y
}

func (y answer) same(z answer) bool {
	return same(y.added, z.added) && same(y.removed, z.removed) && slices.Equal(y.of, z.of) && slices.Equal(y.holds, z.holds) &&
		y.number == z.number && y.gone == z.gone && y.got == z.got && y.errors == z.errors
}

// around is a valid field with all points of a store that it can have.
func around(c api.Certs) api.Field {
	var ids []int
	for _, h := range c.List[:min(len(c.List), 200)] {
		ids = append(ids, h.Cert.Low, h.Cert.High)
	}
	ids = slices.DeleteFunc(ids, func(id int) bool { return id < 0 || id > top })
	slices.Sort(ids)
	ids = slices.Compact(ids)
	var f api.Field
	for i, id := range ids[:min(len(ids), 64)] {
		f.Points = append(f.Points, pt(id, int64(i*29%17-8), int64(i*13%11-5)))
	}
	return f
}

// questions are a few about a store, with certificates, fields and times that are valid and others, and with numbers and IDs that are there and others.
func questions(c api.Certs) []question {
	f := around(c)
	list := []question{
		{over(8, 9), 0, 1, f, whole(0)}, {over(0, top), -1, -1, f, frac(2, 4)}, {over(4, 4), c.Next, top + 1, points(pt(-1, 0, 0)), whole(0)}, {over(-1, 2), c.Next - 1, 2, points(pt(2, 0, 0), pt(1, 0, 0)), frac(0, 2)},
		{over(2, top+1), least, most, api.Field{Points: make([]api.Point, 65)}, frac(1, 0)}, {over(2, 1), most, least, standing(), frac(-5, 3)}, {over(2, 3), 2, 2, moving(), frac(1, 2)}, {api.Cert{}, 7, 3, api.Field{}, api.Ratio{}},
	}
	for i := 0; i < len(c.List); i += 1 + len(c.List)/3 {
		h := c.List[i]
		list = append(list, question{h.Cert, h.Number, h.Cert.High, f, whole(int64(i % 7))}, question{turned(h.Cert), h.Number + 1, h.Cert.Low, api.Field{}, whole(1)})
		if n := len(f.Points); n > 0 {
			list = append(list, question{h.Cert, -h.Number, h.Cert.Low + 1, api.Field{Points: f.Points[:n-1]}, whole(most)})
		}
	}
	return list
}

// forAll asks all questions of all stores.
func forAll(do func(c api.Certs, q question)) {
	for _, c := range allStores() {
		for _, q := range questions(c) {
			do(c, q)
		}
	}
}

// R1, R6 and R7: whatever the arguments are, nothing panics, the error is the first one that applies, and there is nothing else.
func TestWhateverComes(t *testing.T) {
	seen := map[api.Errno]int{}
	forAll(func(c api.Certs, q question) {
		y, want := ask(c, q), wanted(c, q)
		if !y.same(want) {
			t.Fatal(c, q, y, want)
		}
		for _, e := range y.errors {
			seen[e]++
		}
	})
	for _, e := range []api.Errno{api.OK, api.ErrMany, api.ErrNone, api.ErrBad, api.ErrTwice, api.ErrFull, api.ErrOrder} {
		if seen[e] < 100 {
			t.Error(e, "seen only", seen[e])
		}
	}
}

// R1 and R7: the same for stores by chance.
func TestWhateverComesByChance(t *testing.T) {
	m := mixer(86)
	bad := 0
	for range 4000 {
		c := m.spoiled(1 + m.below(9))
		for _, q := range questions(c) {
			y, want := ask(c, q), wanted(c, q)
			if !y.same(want) {
				t.Fatal(c, q, y, want)
			}
			if y.errors[0] == api.ErrBad {
				bad++
			}
		}
	}
	enough(t, bad)
}

// R1: ErrBad of the store comes first, before all errors of other arguments, and before ErrFull.
func TestBadComesFirst(t *testing.T) {
	stores := []api.Certs{of(-1), of(limit + 1), chain(201), of(2, held(0, 2, 1), held(1, 2, 1)), of(2, held(0, 2, 2), held(1, 2, 1)), of(limit, held(limit, 2, 1)), with(chain(200), func(c *api.Certs) { c.List[199].Number = 198 })}
	certs := append(badCerts(), over(2, 1), over(1, 2), over(8, 9))
	all := []api.Field{{}, standing(), many(64, 0, func(i int64) (a, b int64) { return i, 0 })}
	for _, list := range badFields() {
		all = append(all, list...)
	}
	for _, c := range stores {
		for i, x := range certs {
			for _, f := range all {
				for _, at := range append(badTimes(), whole(1)) {
					if y := ask(c, question{x, i - 5, i - 5, f, at}); !y.same(allBad()) {
						t.Fatal(c, x, f, at, y)
					}
				}
			}
		}
	}
}

// R2: nothing is kept from call to call.
func TestNothingIsKept(t *testing.T) {
	list := allStores()
	asked := func(i int) answer {
		c := list[i*7%len(list)]
		all := questions(c)
		return ask(c, all[i%len(all)]).kept()
	}
	var before []answer
	for i := range 2000 {
		before = append(before, asked(i))
	}
	for i := len(before) - 1; i >= 0; i-- {
		if y := asked(i); !y.same(before[i]) {
			t.Fatal(i, y, before[i])
		}
	}
}

// fenced is a copy of a slice behind and before other values in the same memory, and that memory.
func fenced[T any](list []T, with T) ([]T, []T) {
	const fence = 20
	memory := slices.Repeat([]T{with}, fence+len(list)+fence)
	copy(memory[fence:], list)
	return memory[fence : fence+len(list)], memory
}

// inFences is the same store and field in memory of their own, and that memory.
func inFences(c api.Certs, f api.Field) (api.Certs, api.Field, []api.Held, []api.Point) {
	list, certs := fenced(c.List, held(5, 8, 9))
	way, points := fenced(f.Points, pt(70, 6, 6))
	return of(c.Next, list...), api.Field{Points: way}, certs, points
}

// R1 and R2: arguments are left as they were, with an error or without one, also the memory behind a slice, and what comes behind it changes no result.
func TestArgumentsAreLeft(t *testing.T) {
	forAll(func(c api.Certs, q question) {
		want := wanted(c, q)
		store, f, certs, points := inFences(c, q.f)
		oldCerts, oldPoints := slices.Clone(certs), slices.Clone(points)
		q.f = f
		y := ask(store, q)
		if !slices.Equal(certs, oldCerts) || !slices.Equal(points, oldPoints) {
			t.Fatal("changed", c, q)
		}
		if !y.same(want) {
			t.Fatal("not the same", c, q, y)
		}
	})
}

// fill writes over all of a slice, up to its capacity.
func fill[T any](list []T, with T) {
	list = list[:cap(list)]
	for i := range list {
		list[i] = with
	}
}

// spoilAll writes over all of an answer, up to the capacity of its slices.
func (y answer) spoilAll() {
	fill(y.added.List, held(-9, -9, -9))
	fill(y.removed.List, held(-9, -9, -9))
	fill(y.of, -9)
	fill(y.holds, -9)
}

// R2: results share no memory with arguments, nor with results of other calls.
func TestResultsAreNewMemory(t *testing.T) {
	forAll(func(c api.Certs, q question) {
		kept := ask(c, q).kept()
		store, f, certs, points := inFences(c, q.f)
		oldCerts, oldPoints := slices.Clone(certs), slices.Clone(points)
		q.f = f
		first, second := ask(store, q), ask(store, q)
		first.spoilAll()
		if !slices.Equal(certs, oldCerts) || !slices.Equal(points, oldPoints) {
			t.Fatal("a result is an argument", c, q)
		}
		if !second.same(kept) {
			t.Fatal("two results share memory", c, q, second, kept)
		}
		fill(certs, held(-8, -8, -8))
		fill(points, pt(-8, -8, -8))
		if !second.same(kept) {
			t.Fatal("a result shares memory with an argument", c, q, second, kept)
		}
	})
}

// R2: a store that was made goes on as it was, whatever is made from it.
func TestMadeFromTheSame(t *testing.T) {
	for _, c := range goodStores() {
		if len(c.List) > 198 || c.Next > limit-2 {
			continue
		}
		// No store that is tested has these IDs.
		base, n := add(t, c, over(60000, 60001))
		before := clone(base)
		one, _ := add(t, base, over(60001, 60000))
		two, _ := add(t, base, over(60001, 60002))
		rest, _ := remove(t, base, n)
		if one.List[len(c.List)+1] != held(n+1, 60001, 60000) || two.List[len(c.List)+1] != held(n+1, 60001, 60002) || !same(base, before) || !same(rest, of(n+1, c.List...)) {
			t.Fatal(c, base, one, two, rest)
		}
	}
}

// R2: no two new stores share memory.
func TestNewIsNew(t *testing.T) {
	a, b := cert.New(), cert.New()
	fill(a.List, held(-9, -9, -9))
	a.Next = 7
	if !same(b, api.Certs{}) || !same(cert.New(), api.Certs{}) {
		t.Error(b)
	}
}

// R3: a slice without elements is the same one, nil or not.
func TestNilAndEmpty(t *testing.T) {
	for _, certs := range [][]api.Held{nil, {}, make([]api.Held, 0, 9), three().List[:0]} {
		for _, way := range [][]api.Point{nil, {}, make([]api.Point, 0, 9), standing().Points[:0]} {
			for _, next := range []int{-1, 0, 1, 7, limit, limit + 1} {
				for _, q := range questions(of(next)) {
					want := wanted(of(next), question{q.x, q.number, q.id, api.Field{}, q.at})
					q.f = api.Field{Points: way}
					if y := ask(of(next, certs...), q); !y.same(want) {
						t.Fatal(next, q, y, want)
					}
					// The points of a store that has some are not there, with either of them.
					want = wanted(three(), question{q.x, q.number, q.id, api.Field{}, q.at})
					if y := ask(three(), q); !y.same(want) {
						t.Fatal(next, q, y, want)
					}
				}
			}
		}
	}
}
