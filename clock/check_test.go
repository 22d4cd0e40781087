package clock_test

import (
	"testing"

	"peloton/api"
	"peloton/clock"
)

func wantNew(t *testing.T, f api.Field, now api.Ratio, want api.Clock, e api.Errno) {
	t.Helper()
	if c, g := clock.New(f, now); !same(c, want) || g != e {
		t.Fatal("new", f, now, c, g, want, e)
	}
}

// P9.1: New has the field and the time, no certificates, and 200 slots that were never used; it is valid.
func TestNew(t *testing.T) {
	for _, f := range fields() {
		for _, now := range times() {
			wantNew(t, f, now, bare(now, f), api.OK)
			if e := clock.Check(bare(now, f)); e != api.OK {
				t.Fatal(f, now, e)
			}
		}
	}
	c, e := clock.New(moving(), whole(1))
	if e != api.OK || c.Now != whole(1) || len(c.Field.Points) != 3 || c.Certs.Next != 0 || len(c.Certs.List)+len(c.Due)+len(c.Agenda.Heap) != 0 || len(c.Agenda.Slots.Free) != 200 || c.Agenda.Slots.Free[199] != 0 {
		t.Error(c, e)
	}
	wantNext(t, c, api.Event{}, api.ErrEmpty)
	wantRetire(t, c, 0, api.Clock{}, api.ErrNone)
}

// P9.1: the error of the field comes first, and then that of the time.
func TestNewErrors(t *testing.T) {
	for e, list := range badFields() {
		for _, f := range list {
			for _, now := range append(badTimes(), times()...) {
				wantNew(t, f, now, api.Clock{}, e)
			}
		}
	}
	for _, f := range fields() {
		for _, now := range badTimes() {
			wantNew(t, f, now, api.Clock{}, api.ErrBad)
		}
	}
}

// P9.1: Check of clocks that are valid.
func TestCheckValid(t *testing.T) {
	for _, c := range goodClocks() {
		if e := clock.Check(c); e != api.OK || !isValid(c) {
			t.Error(c, e)
		}
	}
}

// P9.1: Check of clocks that are not valid, in each way.
func TestCheckBad(t *testing.T) {
	for reason, list := range badClocks() {
		if len(list) < 5 {
			t.Error(reason, "has only", len(list))
		}
		for _, c := range list {
			if e := clock.Check(c); e != api.ErrBad || isValid(c) {
				t.Error(reason, c, e)
			}
		}
	}
}

// P9.1: a clock is valid at each time up to which no certificate is due that has an event, and at which all others still have none; not only at the time at which it was made.
func TestCheckNow(t *testing.T) {
	for _, x := range []struct {
		now api.Ratio
		e   api.Errno
	}{
		{whole(-most), api.ErrBad}, {whole(-1), api.ErrBad}, {frac(-1, most), api.ErrBad}, {whole(0), api.OK}, {frac(1, most), api.OK}, {whole(1), api.OK}, {frac(3, 2), api.OK},
		{frac(2*fine-1, fine), api.OK}, {whole(2), api.OK}, {frac(2*fine+1, fine), api.ErrBad}, {whole(6), api.ErrBad}, {whole(most), api.ErrBad},
	} {
		c := with(example(), func(c *api.Clock) { c.Now = x.now })
		if e := clock.Check(c); e != x.e {
			t.Error(x, e)
		}
	}
}

// P9.1: the slots of events, and the order of those that are free, may be any ones.
func TestCheckSlots(t *testing.T) {
	m := mixer(91)
	for range 300 {
		for _, c := range []api.Clock{worn(example(), &m), worn(gapped(), &m)} {
			if e := clock.Check(c); e != api.OK {
				t.Fatal(c, e)
			}
		}
	}
}

// P9.1: Check, against the definition.
func TestCheckByDefinition(t *testing.T) {
	m := mixer(92)
	good, bad := 0, 0
	for i := range 12000 {
		c := m.spoiled(1 + i%7)
		want := api.OK
		if !isValid(c) {
			want = api.ErrBad
			bad++
		} else {
			good++
		}
		if e := clock.Check(c); e != want {
			t.Fatal(c, e, want)
		}
	}
	enough(t, good)
	enough(t, bad)
}
