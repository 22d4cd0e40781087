package clock_test

import (
	"slices"
	"testing"

	"peloton/api"
	"peloton/clock"
)

func wantCertify(t *testing.T, c api.Clock, x api.Cert, want api.Clock, number int, e api.Errno) {
	t.Helper()
	if r, n, f := clock.Certify(c, x); !same(r, want) || n != number || f != e {
		t.Fatal("certify", c, x, r, n, f, want, number, e)
	}
}

func wantNoCertify(t *testing.T, c api.Clock, x api.Cert, e api.Errno) {
	t.Helper()
	wantCertify(t, c, x, api.Clock{}, 0, e)
}

func wantRetire(t *testing.T, c api.Clock, number int, want api.Clock, e api.Errno) {
	t.Helper()
	if r, f := clock.Retire(c, number); !same(r, want) || f != e {
		t.Fatal("retire", c, number, r, f, want, e)
	}
}

// badCerts are certificates that are not valid, each one for another reason, or for several.
func badCerts() []api.Cert {
	list := []api.Cert{{}, over(1, 1), over(top, top), over(7, 7), over(-1, -1), over(top+1, top+1), over(-1, top+1), over(least, most)}
	for _, id := range []int{-1, -2, least, top + 1, 1<<16 + 2, 1<<32 + 1, most} {
		for _, other := range []int{0, 1, 2, 700, top} {
			list = append(list, over(id, other), over(other, id))
		}
	}
	return list
}

// P9.2: a certificate that fails later, now, or never, or that failed before now, alone in a new clock.
func TestCertify(t *testing.T) {
	for _, y := range []struct {
		now   api.Ratio
		x     api.Cert
		at    api.Ratio
		fails bool
	}{
		{whole(1), over(2, 1), whole(2), true}, {whole(1), over(2, 5), whole(6), true}, {whole(1), over(1, 5), whole(0), false}, {whole(-1), over(5, 1), whole(0), true},
		{whole(1), over(1, 2), whole(1), true}, {whole(1), over(5, 2), whole(1), true}, {whole(1), over(5, 1), whole(1), true}, {frac(1, 3), over(1, 2), frac(1, 3), true},
		{whole(2), over(2, 1), whole(2), true}, {whole(2), over(1, 2), whole(0), false}, {whole(3), over(2, 1), whole(3), true}, {whole(3), over(1, 2), whole(0), false},
		{whole(most), over(2, 1), whole(most), true}, {whole(most), over(2, 5), whole(most), true}, {whole(-most), over(2, 1), whole(2), true}, {whole(-most), over(1, 2), whole(-most), true},
		{frac(2*fine-1, fine), over(2, 1), whole(2), true}, {frac(2*fine+1, fine), over(2, 1), frac(2*fine+1, fine), true}, {frac(2*fine-1, fine), over(1, 2), frac(2*fine-1, fine), true},
	} {
		want := bare(y.now, moving())
		want.Certs = certs(1, held(0, y.x.High, y.x.Low))
		if y.fails {
			want = pushed(want, y.at, 0)
		}
		wantCertify(t, bare(y.now, moving()), y.x, want, 0, api.OK)
	}
	// Points that never meet: the one behind fails now, and the one ahead never.
	f := points(pt(3, 4, 7), pt(4, 5, 7), pt(5, 4, 7))
	for _, now := range times() {
		for _, x := range []api.Cert{over(4, 3), over(3, 5), over(4, 5)} {
			c, _ := certify(t, bare(now, f), x)
			wantNext(t, c, api.Event{}, api.ErrEmpty)
			c, n := certify(t, c, over(x.Low, x.High))
			wantNext(t, c, event(now, n, 0, 1), api.OK)
		}
	}
}

// P9.2: certificates that are added to those of the example, with the slots, the order and the numbers of all that is there then.
func TestCertifyMore(t *testing.T) {
	c, n := certify(t, example(), over(5, 2))
	if n != 3 || !slices.Equal(c.Certs.List, []api.Held{held(0, 2, 1), held(1, 2, 5), held(2, 1, 5), held(3, 5, 2)}) || c.Certs.Next != 4 {
		t.Error(c, n)
	}
	// It fails now, so its event goes up to the first place, and the one at 2 comes behind the others.
	if !slices.Equal(c.Agenda.Heap, []api.Event{event(whole(1), 3, 2, 1), event(whole(6), 1, 1, 1), event(whole(2), 0, 0, 1)}) || !slices.Equal(c.Agenda.Where[:4], numbers(2, 1, 0, -1)) {
		t.Error(c)
	}
	if !slices.Equal(c.Due, append(example().Due, api.Due{Number: 3, Handle: api.Handle{Index: 2, Use: 1}})) || len(c.Agenda.Slots.Free) != 197 {
		t.Error(c)
	}
	// Slots that were given back are taken again.
	c = retire(t, c, 1)
	c, n = certify(t, c, over(2, 5))
	if x, _ := eventOf(c.Agenda, 4); n != 4 || x != event(whole(6), 4, 1, 2) {
		t.Error(c, n)
	}
}

// P9.2: a certificate that is not valid is ErrBad, whatever is there, also with an ID that is there.
func TestCertifyBad(t *testing.T) {
	for _, c := range goodClocks() {
		for _, x := range badCerts() {
			wantNoCertify(t, c, x, api.ErrBad)
		}
	}
}

// P9.2: a certificate whose points are not both there is ErrNone, also where there is no room.
func TestCertifyNone(t *testing.T) {
	for _, c := range []api.Clock{example(), gapped(), blocked(example()), bare(whole(1), moving()), of(whole(1), moving(), certs(limit)), of(whole(1), moving(), certs(limit, held(0, 2, 1)))} {
		for _, id := range []int{1, 2, 5} {
			for _, other := range []int{0, 3, 4, 6, 8, 700, top} {
				wantNoCertify(t, c, over(id, other), api.ErrNone)
				wantNoCertify(t, c, over(other, id), api.ErrNone)
				wantNoCertify(t, c, over(other, 9), api.ErrNone)
			}
		}
	}
	full := of(whole(9), crowd(60), pairs(200))
	for _, x := range []api.Cert{over(0, 60), over(60, 0), over(59, 60), over(60, 59), over(61, 60), over(0, top)} {
		wantNoCertify(t, full, x, api.ErrNone)
		wantNoCertify(t, bare(whole(1), api.Field{}), x, api.ErrNone)
	}
}

// P9.2: a certificate that is there is ErrTwice, whether it has an event or not, also where there is no room; the one with Low and High exchanged is another one.
func TestCertifyTwice(t *testing.T) {
	for _, c := range goodClocks() {
		for _, h := range c.Certs.List {
			wantNoCertify(t, c, h.Cert, api.ErrTwice)
		}
	}
	c, n := certify(t, example(), over(5, 1))
	if x, e := clock.Next(c); n != 3 || x != event(whole(1), 3, 2, 1) || e != api.OK {
		t.Error(c, x, e)
	}
	wantNoCertify(t, c, over(5, 1), api.ErrTwice)
}

// P9.2: a store with MaxCerts certificates, or without a number that is left, is full, also for a certificate that never fails.
func TestCertifyFull(t *testing.T) {
	// From the pairs of 64 points 2016 certificates could be made, so these are not there: at 0 the first one fails at 62 + 61, and the other one now.
	for _, c := range []api.Clock{of(whole(0), crowd(64), pairs(200)), of(whole(0), crowd(64), turned(pairs(200))), of(whole(0), crowd(64), certs(limit)), of(whole(0), crowd(64), certs(limit, pairs(199).List...)), of(whole(200), crowd(64), pairs(200))} {
		wantNoCertify(t, c, over(62, 61), api.ErrFull)
		wantNoCertify(t, c, over(61, 62), api.ErrFull)
	}
	for _, s := range []api.Certs{pairs(199), certs(limit-1, pairs(199).List...), certs(limit - 1)} {
		c, n := certify(t, of(whole(0), crowd(64), s), over(62, 61))
		if x, _ := eventOf(c.Agenda, n); n != s.Next || x != event(whole(123), n, len(s.List), 1) || clock.Check(c) != api.OK {
			t.Error(c, n, x)
		}
		wantNoCertify(t, c, over(61, 62), api.ErrFull)
	}
}

// P9.2: without room in the agenda a certificate that fails is ErrFull, and one that never fails is not.
func TestCertifyNoRoom(t *testing.T) {
	c := blocked(bare(whole(1), moving()))
	wantNoCertify(t, c, over(2, 1), api.ErrFull)
	wantNoCertify(t, c, over(2, 5), api.ErrFull)
	wantNoCertify(t, c, over(1, 2), api.ErrFull)
	r, n := certify(t, c, over(1, 5))
	if want := with(c, func(c *api.Clock) { c.Certs = certs(1, held(0, 1, 5)) }); n != 0 || !same(r, want) {
		t.Error(r, n)
	}
	// A slot that was used less often comes next.
	free := with(c, func(c *api.Clock) { slices.Reverse(c.Agenda.Slots.Free) })
	r, _ = certify(t, free, over(2, 1))
	wantNext(t, r, event(whole(2), 0, slots-1, 1), api.OK)
	// One use is left.
	last := with(c, func(c *api.Clock) { c.Agenda.Slots.Uses[0] = limit - 1 })
	r, _ = certify(t, last, over(2, 1))
	wantNext(t, r, event(whole(2), 0, 0, limit), api.OK)
	r, _ = certify(t, r, over(2, 5))
	wantNoCertify(t, retire(t, r, 0), over(2, 1), api.ErrFull)
}

// P9.2: Certify, against the promise.
func TestCertifyByPromise(t *testing.T) {
	m := mixer(93)
	seen := map[api.Errno]int{}
	with, without := 0, 0
	for i := range 5000 {
		c := m.clock(2+i%9, i%13)
		if i%20 == 0 && len(c.Agenda.Heap) < 200 {
			c = blocked(c)
		}
		if i%40 == 1 {
			c = m.clock(64, 230)
		}
		var x api.Cert
		switch m.below(8) {
		case 0:
			x = badCerts()[m.below(len(badCerts()))]
		case 1:
			x = over(m.below(9), m.below(900))
		default:
			if len(c.Field.Points) > 1 {
				x = m.cert(c.Field)
			}
		}
		want, n, e := afterCertifying(c, x)
		wantCertify(t, c, x, want, n, e)
		seen[e]++
		if len(want.Due) > len(c.Due) {
			with++
		} else if e == api.OK {
			without++
		}
	}
	for e, n := range map[api.Errno]int{api.OK: 1000, api.ErrBad: 500, api.ErrNone: 300, api.ErrTwice: 300, api.ErrFull: 100} {
		if seen[e] < n {
			t.Error(e, "seen only", seen[e])
		}
	}
	if with < 700 || without < 300 {
		t.Error(with, without)
	}
}

// P9.2: Retire of the first number, of the last one, and of those in between, with an event and without one; its handle is live no more.
func TestRetire(t *testing.T) {
	c := retire(t, example(), 0)
	want := with(example(), func(c *api.Clock) {
		c.Certs = certs(3, held(1, 2, 5), held(2, 1, 5))
		c.Agenda.Heap = []api.Event{event(whole(6), 1, 1, 1)}
		c.Agenda.Where[0], c.Agenda.Where[1], c.Agenda.Slots.Used[0] = -1, 0, false
		c.Agenda.Slots.Free = append(c.Agenda.Slots.Free, 0)
		c.Due = c.Due[1:]
	})
	if !same(c, want) {
		t.Error(c)
	}
	c = retire(t, example(), 1)
	if len(c.Due) != 1 || c.Due[0] != example().Due[0] || !slices.Equal(c.Certs.List, []api.Held{held(0, 2, 1), held(2, 1, 5)}) || clock.Check(c) != api.OK {
		t.Error(c)
	}
	// The last one has no event, so the agenda stays as it was.
	wantRetire(t, example(), 2, with(example(), func(c *api.Clock) { c.Certs = certs(3, held(0, 2, 1), held(1, 2, 5)) }), api.OK)
	for _, y := range []struct {
		number int
		left   []int
		due    []int
	}{
		{3, numbers(4, 9, 11, 15, 16), numbers(4, 9, 11)}, {4, numbers(3, 9, 11, 15, 16), numbers(3, 9, 11)}, {9, numbers(3, 4, 11, 15, 16), numbers(3, 4, 11)},
		{11, numbers(3, 4, 9, 15, 16), numbers(3, 4, 9)}, {15, numbers(3, 4, 9, 11, 16), numbers(3, 4, 9, 11)}, {16, numbers(3, 4, 9, 11, 15), numbers(3, 4, 9, 11)},
	} {
		c := retire(t, gapped(), y.number)
		var left, due []int
		for _, h := range c.Certs.List {
			left = append(left, h.Number)
		}
		for _, d := range c.Due {
			due = append(due, d.Number)
		}
		if !slices.Equal(left, y.left) || !slices.Equal(due, y.due) || c.Certs.Next != 20 || clock.Check(c) != api.OK {
			t.Error(y, c)
		}
		wantRetire(t, c, y.number, api.Clock{}, api.ErrNone)
	}
}

// P9.2: Retire of a number that no certificate has is ErrNone, also of one that was there, and of one that an event might have.
func TestRetireNone(t *testing.T) {
	for _, n := range []int{least, -1 << 32, -2, -1, 0, 1, 2, 5, 8, 10, 12, 14, 17, 19, 20, 21, limit - 1, limit, limit + 1, 1<<32 + 3, most} {
		wantRetire(t, gapped(), n, api.Clock{}, api.ErrNone)
		wantRetire(t, bare(whole(1), moving()), n, api.Clock{}, api.ErrNone)
		wantRetire(t, bare(whole(1), api.Field{}), n, api.Clock{}, api.ErrNone)
	}
	for _, n := range []int{-1, 3, 4, 200} {
		wantRetire(t, example(), n, api.Clock{}, api.ErrNone)
	}
}

// P9.2: Retire, against the promise.
func TestRetireByPromise(t *testing.T) {
	with, without, none := 0, 0, 0
	m := mixer(94)
	list := goodClocks()
	for i := range 400 {
		list = append(list, m.clock(2+i%9, i%17))
	}
	for _, c := range list {
		all := numbers(-1, 0, c.Certs.Next, c.Certs.Next-1)
		for i := 0; i < len(c.Certs.List); i += 1 + len(c.Certs.List)/20 {
			all = append(all, c.Certs.List[i].Number, c.Certs.List[i].Number+1)
		}
		for _, n := range all {
			want, e := afterRetiring(c, n)
			wantRetire(t, c, n, want, e)
			switch {
			case e != api.OK:
				none++
			case len(want.Due) < len(c.Due):
				with++
			default:
				without++
			}
		}
	}
	enough(t, with)
	enough(t, without)
	enough(t, none)
}
