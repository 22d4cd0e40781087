package clock_test

import (
	"testing"

	"peloton/api"
	"peloton/clock"
)

func wantNext(t *testing.T, c api.Clock, x api.Event, e api.Errno) {
	t.Helper()
	if y, f := clock.Next(c); y != x || f != e {
		t.Fatal("next", c, y, f, x, e)
	}
}

func wantFail(t *testing.T, c api.Clock, to api.Ratio, want api.Clock, y api.Event, x api.Cert, e api.Errno) {
	t.Helper()
	if r, z, w, f := clock.Fail(c, to); !same(r, want) || z != y || w != x || f != e {
		t.Fatal("fail", c, to, r, z, w, f, want, y, x, e)
	}
}

func wantNoFail(t *testing.T, c api.Clock, to api.Ratio, e api.Errno) {
	t.Helper()
	wantFail(t, c, to, api.Clock{}, api.Event{}, api.Cert{}, e)
}

func wantMove(t *testing.T, c api.Clock, to api.Ratio, want api.Clock, e api.Errno) {
	t.Helper()
	if r, f := clock.Move(c, to); !same(r, want) || f != e {
		t.Fatal("move", c, to, r, f, want, e)
	}
}

// at is a clock with another Now, of which all else is the same.
func at(c api.Clock, now api.Ratio) api.Clock {
	return with(c, func(c *api.Clock) { c.Now = now })
}

// P9.3: Next of clocks with no events, with certificates or without, with one, and with several at the same time.
func TestNext(t *testing.T) {
	for _, c := range []api.Clock{bare(whole(1), api.Field{}), bare(whole(1), moving()), of(whole(1), moving(), certs(1, held(0, 1, 5))), of(whole(7), moving(), certs(9, held(3, 1, 2), held(4, 1, 5), held(5, 5, 2)))} {
		wantNext(t, c, api.Event{}, api.ErrEmpty)
	}
	wantNext(t, example(), event(whole(2), 0, 0, 1), api.OK)
	// 4 and 11 fail now.
	c := gapped()
	for _, n := range []int{4, 11, 3, 9} {
		x, _ := eventOf(c.Agenda, n)
		wantNext(t, c, x, api.OK)
		c = retire(t, c, n)
	}
	wantNext(t, c, api.Event{}, api.ErrEmpty)
	c = of(whole(0), level(64), pairs(200))
	for n := range 200 {
		wantNext(t, c, event(whole(1), n, n, 1), api.OK)
		c = retire(t, c, n)
	}
	wantNext(t, c, api.Event{}, api.ErrEmpty)
}

// P9.3: Next, against the promise.
func TestNextByPromise(t *testing.T) {
	m := mixer(95)
	some, none := 0, 0
	for i := range 4000 {
		c := m.clock(2+i%7, i%8)
		x, e := first(c)
		wantNext(t, c, x, e)
		if e == api.OK {
			some++
		} else {
			none++
		}
	}
	enough(t, some)
	if none < 300 {
		t.Error(none)
	}
}

// P9.3: Fail and Move to a time that is before Now, Now, just before an event, at it, just behind it, and behind all of them.
func TestFailAndMove(t *testing.T) {
	failed := with(retire(t, example(), 0), func(c *api.Clock) { c.Now = whole(2) })
	for _, x := range []struct {
		to         api.Ratio
		fail, move api.Errno
	}{
		{whole(-most), api.ErrPast, api.ErrPast}, {whole(0), api.ErrPast, api.ErrPast}, {frac(fine-1, fine), api.ErrPast, api.ErrPast}, {frac(most-1, most), api.ErrPast, api.ErrPast},
		{whole(1), api.ErrNone, api.OK}, {frac(most, most-1), api.ErrNone, api.OK}, {frac(3, 2), api.ErrNone, api.OK}, {frac(2*fine-1, fine), api.ErrNone, api.OK},
		{whole(2), api.OK, api.ErrState}, {frac(2*fine+1, fine), api.OK, api.ErrState}, {whole(4), api.OK, api.ErrState}, {whole(6), api.OK, api.ErrState}, {whole(7), api.OK, api.ErrState}, {whole(most), api.OK, api.ErrState},
	} {
		if x.fail == api.OK {
			wantFail(t, example(), x.to, failed, event(whole(2), 0, 0, 1), over(2, 1), api.OK)
			wantMove(t, example(), x.to, api.Clock{}, x.move)
			continue
		}
		wantNoFail(t, example(), x.to, x.fail)
		if x.move == api.OK {
			wantMove(t, example(), x.to, at(example(), x.to), api.OK)
		} else {
			wantMove(t, example(), x.to, api.Clock{}, x.move)
		}
	}
}

// P9.3: without events nothing fails, and the clock moves to each time from Now on.
func TestFailAndMoveWithoutEvents(t *testing.T) {
	for _, c := range []api.Clock{bare(frac(1, 2), api.Field{}), bare(frac(1, 2), moving()), of(frac(1, 2), moving(), certs(1, held(0, 1, 5)))} {
		for _, to := range times() {
			if compare(to, c.Now) < 0 {
				wantNoFail(t, c, to, api.ErrPast)
				wantMove(t, c, to, api.Clock{}, api.ErrPast)
			} else {
				wantNoFail(t, c, to, api.ErrNone)
				wantMove(t, c, to, at(c, to), api.OK)
			}
		}
	}
}

// P9.3: what is due now fails at once, also up to Now, and Now stays; until then the clock moves nowhere, also not to Now.
func TestDueNow(t *testing.T) {
	for _, to := range []api.Ratio{whole(1), frac(3, 2), whole(2), whole(most)} {
		c := gapped()
		for _, n := range []int{4, 11} {
			wantMove(t, c, to, api.Clock{}, api.ErrState)
			x, _ := eventOf(c.Agenda, n)
			r, y, _ := fail(t, c, to)
			if c = r; y != x || y.At != whole(1) || c.Now != whole(1) {
				t.Error(c, y)
			}
		}
		if compare(to, whole(2)) < 0 {
			wantNoFail(t, c, to, api.ErrNone)
			wantMove(t, c, to, at(c, to), api.OK)
		}
	}
}

// P9.3: certificates that are due at the same time fail one after the other, by their numbers, and Now is this time.
func TestSameTime(t *testing.T) {
	m := mixer(96)
	for _, c := range []api.Clock{of(whole(0), level(64), pairs(200)), m.clockOf(whole(0), level(64), pairs(200)), m.clockOf(frac(2, 3), level(20), pairs(50))} {
		all := len(c.Certs.List)
		for n := range all {
			x := c.Certs.List[0].Cert
			old, _ := eventOf(c.Agenda, n)
			if n == 0 {
				wantNoFail(t, c, frac(fine-1, fine), api.ErrNone)
			} else {
				wantNoFail(t, c, frac(fine-1, fine), api.ErrPast)
			}
			r, y, z := fail(t, c, whole(int64(1+n%3)))
			if y != old || y.At != whole(1) || y.Number != n || z != x || r.Now != whole(1) || len(r.Certs.List) != all-1-n || clock.Check(r) != api.OK {
				t.Fatal(n, r, y, z)
			}
			c = r
		}
		wantNoFail(t, c, whole(most), api.ErrNone)
		wantMove(t, c, whole(most), at(c, whole(most)), api.OK)
	}
}

// P9.3: a time that is no valid fraction is ErrBad, whether something is due or not; ErrPast comes before ErrNone and ErrState.
func TestFailAndMoveErrors(t *testing.T) {
	for _, c := range goodClocks() {
		for _, to := range badTimes() {
			wantNoFail(t, c, to, api.ErrBad)
			wantMove(t, c, to, api.Clock{}, api.ErrBad)
		}
		for _, to := range []api.Ratio{whole(-most), frac(-most, most-1)} {
			if compare(to, c.Now) < 0 {
				wantNoFail(t, c, to, api.ErrPast)
				wantMove(t, c, to, api.Clock{}, api.ErrPast)
			}
		}
	}
}

// P9.3: a failure takes the certificate, and its event, away, whatever slot and place the event has, and leaves all others.
func TestFailTakesOne(t *testing.T) {
	m := mixer(97)
	seen := 0
	for range 600 {
		c := m.clock(9, 12)
		if len(c.Due) == 0 {
			continue
		}
		r, y, x := fail(t, c, whole(most))
		if len(r.Certs.List) != len(c.Certs.List)-1 || len(r.Due) != len(c.Due)-1 || r.Certs.Next != c.Certs.Next {
			t.Fatal(c, r, y, x)
		}
		for _, h := range c.Certs.List {
			before, had := eventOf(c.Agenda, h.Number)
			after, has := eventOf(r.Agenda, h.Number)
			if h.Number == y.Number && (h.Cert != x || has || before != y) || h.Number != y.Number && (before != after || had != has) {
				t.Fatal(c, r, h, before, after)
			}
			seen++
		}
		wantRetire(t, r, y.Number, api.Clock{}, api.ErrNone)
	}
	enough(t, seen)
}

// P9.3: Fail and Move, against the promises.
func TestFailAndMoveByPromise(t *testing.T) {
	m := mixer(98)
	seen := map[api.Errno]int{}
	for i := range 1500 {
		c := m.clock(2+i%9, i%11)
		if i%50 == 1 {
			c = m.clock(64, 230)
		}
		for range 4 {
			to := m.time(c.Field)
			if m.below(9) == 0 {
				to = badTimes()[m.below(len(badTimes()))]
			}
			if n := len(c.Agenda.Heap); n > 0 && m.below(4) == 0 {
				to = c.Agenda.Heap[m.below(n)].At
			}
			want, y, x, e := afterFailing(c, to)
			wantFail(t, c, to, want, y, x, e)
			seen[e]++
			want, e = afterMoving(c, to)
			wantMove(t, c, to, want, e)
			seen[e]++
		}
	}
	for e, n := range map[api.Errno]int{api.OK: 1000, api.ErrBad: 500, api.ErrNone: 500, api.ErrPast: 1000, api.ErrState: 500} {
		if seen[e] < n {
			t.Error(e, "seen only", seen[e])
		}
	}
}
