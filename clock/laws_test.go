package clock_test

import (
	"slices"
	"testing"

	"peloton/api"
	"peloton/clock"
)

// said is when a certificate fails.
type said struct {
	x  api.Cert
	at api.Ratio
}

// saidBy are the events of a clock with the certificates of which they are, in order by them.
func saidBy(c api.Clock) []said {
	var list []said
	for _, h := range c.Certs.List {
		if y, ok := eventOf(c.Agenda, h.Number); ok {
			list = append(list, said{h.Cert, y.At})
		}
	}
	slices.SortFunc(list, func(a, b said) int {
		if a.x.High != b.x.High {
			return a.x.High - b.x.High
		}
		return a.x.Low - b.x.Low
	})
	return list
}

// holds reports whether a certificate holds at a time.
func holds(f api.Field, x api.Cert, at api.Ratio) bool {
	high, _ := point(f, x.High)
	low, _ := point(f, x.Low)
	return isAhead(high, low, at)
}

// between are times from one to another one, with both, and with all meetings in between, and times around them.
func between(f api.Field, from, to api.Ratio) []api.Ratio {
	list := []api.Ratio{from, to}
	for _, at := range meetings(f) {
		for _, near := range []api.Ratio{at, ratio(1024*at.Num+1, 1024*at.Den), ratio(1024*at.Num-1, 1024*at.Den)} {
			if compare(from, near) < 0 && compare(near, to) < 0 {
				list = append(list, near)
			}
		}
	}
	return list
}

// P9.5: what is due comes, and nothing else: of all that are due the one with the least failure time, and of those with the same one the one with the least number; it ends, as each one takes a certificate away, and then the clock can move to this time.
func TestWhatIsDueComes(t *testing.T) {
	m := mixer(100)
	failed, left := 0, 0
	for i := range 1200 {
		c := m.clock(2+i%9, i%14)
		if i%60 == 1 {
			c = m.clock(64, 230)
		}
		to := m.time(c.Field)
		if compare(to, c.Now) < 0 {
			to = whole(most)
		}
		want := dueUpTo(c, to)
		last := c.Now
		for _, x := range want {
			wantMove(t, c, to, api.Clock{}, api.ErrState)
			n := len(c.Certs.List)
			r, y, _ := fail(t, c, to)
			if y.Number != x.Number || y.At != x.At || r.Now != x.At || compare(last, r.Now) > 0 || len(r.Certs.List) != n-1 {
				t.Fatal(c, to, x, y, r)
			}
			c, last = r, r.Now
			failed++
		}
		wantNoFail(t, c, to, api.ErrNone)
		c = move(t, c, to)
		if c.Now != to || !isValid(c) {
			t.Fatal(c, to)
		}
		left += len(c.Certs.List)
	}
	enough(t, failed)
	enough(t, left)
}

// P9.5: failing until nothing is due leaves the certificates that never fail from then on, and all of them hold at all times.
func TestUntilNoneIsDue(t *testing.T) {
	m := mixer(101)
	seen := 0
	for i := range 400 {
		c := m.clock(2+i%9, 4+i%20)
		for range len(c.Certs.List) + 1 {
			r, _, _, e := clock.Fail(c, whole(most))
			if e != api.OK {
				break
			}
			c = r
		}
		wantNext(t, c, api.Event{}, api.ErrEmpty)
		wantNoFail(t, c, whole(most), api.ErrNone)
		c = move(t, c, whole(most))
		for _, h := range c.Certs.List {
			for _, at := range []api.Ratio{c.Now, whole(most), whole(1 << 30)} {
				if compare(at, c.Now) >= 0 && !holds(c.Field, h.Cert, at) {
					t.Fatal(c, h, at)
				}
				seen++
			}
		}
	}
	enough(t, seen)
}

// P9.5: if none is due up to a time, all certificates hold up to it.
func TestAllHold(t *testing.T) {
	m := mixer(102)
	seen := 0
	for i := range 5000 {
		c := m.clock(2+i%7, 1+i%9)
		to := m.time(c.Field)
		if y, e := clock.Next(c); e == api.OK && m.below(2) == 0 {
			// Just before the first event.
			to = justBefore(y.At)
		}
		if _, _, _, e := clock.Fail(c, to); e != api.ErrNone {
			continue
		}
		for _, at := range between(c.Field, c.Now, to) {
			for _, h := range c.Certs.List {
				if !holds(c.Field, h.Cert, at) {
					t.Fatal(c, to, at, h)
				}
				seen++
			}
		}
	}
	enough(t, seen)
}

// justBefore is a time that is a little less.
func justBefore(at api.Ratio) api.Ratio {
	if max(at.Num, -at.Num, at.Den) > 1<<50 {
		return at
	}
	return ratio(1024*at.Num-1, 1024*at.Den)
}

// P9.5: until its event a certificate holds, and at it not.
func TestEventsAreFailures(t *testing.T) {
	m := mixer(103)
	seen := 0
	for i := range 800 {
		c := m.clock(2+i%7, 1+i%9)
		for _, h := range c.Certs.List {
			to, has := whole(most), false
			if y, ok := eventOf(c.Agenda, h.Number); ok {
				to, has = y.At, true
			}
			for _, at := range between(c.Field, c.Now, to) {
				want := !has || at != to
				if compare(at, to) <= 0 && holds(c.Field, h.Cert, at) != want {
					t.Fatal(c, h, at, to, has)
				}
				seen++
			}
		}
	}
	enough(t, seen)
}

// P9.5: failing up to a time in steps is failing up to it at once, also with moves in between.
func TestInSteps(t *testing.T) {
	m := mixer(104)
	seen := 0
	for i := range 500 {
		c := m.clock(2+i%7, 1+i%12)
		steps := between(c.Field, c.Now, whole(most))
		slices.SortFunc(steps, compare)
		one, other := c, c
		for _, to := range steps {
			for {
				r, y, x, e := clock.Fail(one, to)
				if e != api.OK {
					break
				}
				r2, y2, x2 := fail(t, other, whole(most))
				if y != y2 || x != x2 {
					t.Fatal(c, to, y, y2, x, x2)
				}
				one, other = r, r2
				seen++
			}
			one = move(t, one, to)
		}
		if other = move(t, other, whole(most)); !same(one, other) {
			t.Fatal(c, one, other)
		}
	}
	enough(t, seen)
}

// P9.5: altering leaves the events that certifying all of them anew would give, but for handles.
func TestAlterIsCertifyingAnew(t *testing.T) {
	m := mixer(105)
	seen := 0
	for i := range 1200 {
		c := m.clock(2+i%9, 1+i%14)
		if i%60 == 1 {
			c = m.clock(64, 230)
		}
		f := m.other(c.Field, 1+m.below(9))
		r := alter(t, c, f)
		anew, e := clock.New(f, c.Now)
		if e != api.OK {
			t.Fatal(e)
		}
		for _, h := range c.Certs.List {
			anew, _ = certify(t, anew, h.Cert)
		}
		if !slices.Equal(saidBy(r), saidBy(anew)) || !isValid(r) || r.Now != c.Now || r.Certs.Next != c.Certs.Next || !slices.Equal(r.Certs.List, c.Certs.List) {
			t.Fatal(c, f, r, anew)
		}
		seen += len(saidBy(r))
		if back := alter(t, r, c.Field); !slices.Equal(saidBy(back), saidBy(c)) {
			t.Fatal(c, f, back)
		}
	}
	enough(t, seen)
}

// P9.2 and P9.5: what is certified and retired leaves the clock as it was, but for Next and for slots.
func TestThereAndBack(t *testing.T) {
	m := mixer(106)
	seen := 0
	for i := range 4000 {
		c := m.clock(2+i%9, 1+i%9)
		if len(c.Field.Points) < 2 {
			continue
		}
		r, n, e := clock.Certify(c, m.cert(c.Field))
		if e != api.OK {
			continue
		}
		back := retire(t, r, n)
		if !slices.Equal(back.Certs.List, c.Certs.List) || back.Certs.Next != n+1 || !slices.Equal(back.Due, c.Due) || !slices.Equal(saidBy(back), saidBy(c)) || !slices.Equal(back.Agenda.Slots.Free, c.Agenda.Slots.Free) {
			t.Fatal(c, r, back)
		}
		for _, h := range c.Certs.List {
			before, _ := eventOf(c.Agenda, h.Number)
			if after, _ := eventOf(back.Agenda, h.Number); before != after {
				t.Fatal(c, r, h, before, after)
			}
		}
		seen++
	}
	enough(t, seen)
}

// book keeps all that was said of a clock: the certificates that are there, and the numbers of those that were.
type book struct {
	c    api.Clock
	list []api.Held
	old  []int
}

func (b *book) drop(t *testing.T, number int) {
	t.Helper()
	i := slices.IndexFunc(b.list, func(h api.Held) bool { return h.Number == number })
	if i < 0 {
		t.Fatal("it was there no more", number)
	}
	b.list, b.old = slices.Delete(b.list, i, i+1), append(b.old, number)
}

// check fails unless the clock is valid, has the certificates of the book, and none that were.
func (b *book) check(t *testing.T) {
	t.Helper()
	if e := clock.Check(b.c); e != api.OK || !isValid(b.c) || !slices.Equal(b.c.Certs.List, b.list) {
		t.Fatal(b, e)
	}
	for _, n := range b.old[max(0, len(b.old)-3):] {
		wantRetire(t, b.c, n, api.Clock{}, api.ErrNone)
	}
}

// step does one thing with a clock.
func (b *book) step(t *testing.T, m *mixer) string {
	t.Helper()
	switch m.below(8) {
	case 0, 1, 2:
		x := m.cert(b.c.Field)
		c, n, e := clock.Certify(b.c, x)
		if e == api.ErrTwice {
			return "twice"
		}
		if e != api.OK || slices.Contains(b.old, n) {
			t.Fatal(b, x, n, e)
		}
		b.c, b.list = c, append(b.list, api.Held{Number: n, Cert: x})
		return "certified"
	case 3:
		if len(b.list) > 0 {
			n := b.list[m.below(len(b.list))].Number
			b.c = retire(t, b.c, n)
			b.drop(t, n)
			return "retired"
		}
	case 4, 5:
		to := m.time(b.c.Field)
		c, y, _, e := clock.Fail(b.c, to)
		if e == api.OK {
			b.c = c
			b.drop(t, y.Number)
			return "failed"
		}
		if e == api.ErrNone {
			b.c = move(t, b.c, to)
			return "moved"
		}
	case 6, 7:
		b.c = alter(t, b.c, m.other(b.c.Field, 3))
		return "altered"
	}
	return "nothing"
}

// P9.5: whatever is certified, retired, failed, moved and altered, the clock stays valid, and its events are those of its certificates.
func TestBooks(t *testing.T) {
	m := mixer(107)
	seen := map[string]int{}
	for i := range 150 {
		f := m.field(2 + i%8)
		c, e := clock.New(f, m.time(points(f.Points[:1]...)))
		if e != api.OK {
			t.Fatal(e)
		}
		b := &book{c: c}
		for range 50 {
			seen[b.step(t, &m)]++
			b.check(t)
		}
	}
	for _, what := range []string{"certified", "retired", "failed", "moved", "altered"} {
		if seen[what] < 150 {
			t.Error(what, "only", seen[what])
		}
	}
}

// The examples of the chapter.
func TestExamples(t *testing.T) {
	c, e := clock.New(moving(), whole(1))
	if e != api.OK {
		t.Fatal(e)
	}
	for n, x := range []api.Cert{over(2, 1), over(2, 5), over(1, 5)} {
		r, k := certify(t, c, x)
		if c = r; k != n {
			t.Error(c, k)
		}
	}
	if !same(c, example()) {
		t.Error(c)
	}
	c, y, x := fail(t, c, whole(4))
	if y != event(whole(2), 0, 0, 1) || x != over(2, 1) || c.Now != whole(2) {
		t.Error(c, y, x)
	}
	wantNoFail(t, c, whole(4), api.ErrNone)
	wantMove(t, c, whole(6), api.Clock{}, api.ErrState)
	c = alter(t, c, withPoint(moving(), pt(5, 0, 1)))
	wantNext(t, c, event(whole(3), 1, 1, 1), api.OK)
}
