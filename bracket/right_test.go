package bracket_test

import (
	"testing"

	"peloton/api"
	"peloton/bracket"
)

func wantRight(t *testing.T, b api.Bracket, f api.Field, at api.Ratio, want bool, e api.Errno) {
	t.Helper()
	if ok, g := bracket.Right(b, f, at); ok != want || g != e {
		t.Fatal("right", b, f, at, ok, g, want, e)
	}
}

// P10.3: Right of a bracket that is right, of one that was right at another time, and of ones that never are.
func TestRight(t *testing.T) {
	for _, x := range []struct {
		b    api.Bracket
		at   api.Ratio
		want bool
	}{
		{example(), whole(0), true}, {example(), whole(1), true}, {example(), whole(-9), true}, {example(), frac(2*fine-1, fine), true}, {example(), whole(2), false}, {example(), frac(2*fine+1, fine), false}, {example(), whole(most), false}, {example(), whole(-most), true},
		{of(ids(1, 2, -1, 5), 1, 1, 5), whole(2), true}, {of(ids(1, 2, -1, 5), 1, 1, 5), whole(most), true}, {of(ids(1, 2, -1, 5), 1, 1, 5), frac(2*fine-1, fine), false},
		// One node alone is wrong: the root, or one below it.
		{of(ids(1, 2, -1, 5), 5, 2, 5), whole(0), false}, {of(ids(1, 2, -1, 5), 1, 1, 5), whole(0), false}, {of(ids(1, 2, -1, 5), 5, 1, 5), whole(0), false}, {of(ids(1, 2, -1, 5), 5, 1, 5), whole(-1), false},
		{of(ids(2, -1, 1, 5), 2, 2, 1), whole(0), true}, {of(ids(2, -1, 1, 5), 2, 2, 5), whole(0), false}, {of(ids(2, -1, 1, 5), 2, 2, 5), frac(-1, most), true}, {of(ids(2, -1, 1, 5), 2, 2, 1), whole(2), false}, {of(ids(2, -1, 1, 5), 1, 2, 1), whole(2), true},
		{of(ids(2, 5), 2), frac(6*fine-1, fine), true}, {of(ids(2, 5), 2), whole(6), false}, {of(ids(2, 5), 5), whole(6), true}, {of(ids(5, 2), 5), whole(6), true}, {of(ids(5, 2), 2), whole(6), false},
		// Where nobody meets, it is right at all times.
		{of(ids(2)), whole(7), true}, {of(ids(-1)), whole(7), true}, {of(ids(-1, -1), -1), whole(7), true}, {of(ids(2, -1), 2), whole(most), true}, {of(ids(-1, 2, -1), 2, 2), whole(-most), true}, {of(empties(64), empties(63)...), whole(7), true},
	} {
		wantRight(t, x.b, moving(), x.at, x.want, api.OK)
		// Other points are of no account.
		wantRight(t, x.b, points(append(moving().Points, pt(7, coord, coord), pt(8, coord, -coord))...), x.at, x.want, api.OK)
	}
	wantRight(t, of(ids(-1)), api.Field{}, whole(1), true, api.OK)
	wantRight(t, of(ids(-1, -1, -1), -1, -1), api.Field{}, whole(1), true, api.OK)
}

// P10.3: with one winner of a right bracket another one, it is right no more.
func TestRightButOne(t *testing.T) {
	for _, at := range []api.Ratio{whole(0), whole(1), whole(9)} {
		for _, f := range []api.Field{crowd(64), level(64), together(64, 0)} {
			b := rightOne(f, at, upTo(64))
			wantRight(t, b, f, at, true, api.OK)
			for i := range b.Wins {
				x, y := below(b, i)
				wrong := with(b, func(b *api.Bracket) { b.Wins[i] = x + y - b.Wins[i] })
				if isValid(wrong) {
					wantRight(t, wrong, f, at, false, api.OK)
				}
				// With the other one in all nodes above, too.
				wantRight(t, won(b, i, x+y-b.Wins[i]), f, at, false, api.OK)
			}
		}
	}
}

// P10.3: a field that lacks one of the IDs, whichever it is, is ErrNone, whether it wins or not.
func TestRightNone(t *testing.T) {
	for _, id := range ids(1, 2, 5) {
		wantRight(t, example(), without(moving(), id), whole(0), false, api.ErrNone)
		wantRight(t, of(ids(1, 2, -1, 5), 5, 1, 5), without(moving(), id), whole(0), false, api.ErrNone)
		wantRight(t, of(ids(id)), without(moving(), id), whole(0), false, api.ErrNone)
		wantRight(t, of(ids(id, -1), id), without(moving(), id), whole(0), false, api.ErrNone)
	}
	for id := range 64 {
		wantRight(t, rightOne(level(64), whole(0), upTo(64)), without(level(64), id), whole(0), false, api.ErrNone)
		wantRight(t, rightOne(level(64), whole(1), upTo(64)), without(level(64), id), whole(0), false, api.ErrNone)
	}
	wantRight(t, example(), api.Field{}, whole(0), false, api.ErrNone)
	wantRight(t, of(ids(0)), api.Field{}, whole(0), false, api.ErrNone)
	wantRight(t, of(ids(0)), moving(), whole(0), false, api.ErrNone)
}

// P10.3: each error of Right, and which one comes first.
func TestRightErrors(t *testing.T) {
	times := append(badTimes(), whole(1))
	bad := allBadFields()
	for i, b := range allBadBrackets() {
		wantRight(t, b, bad[i%len(bad)], times[i%len(times)], false, api.ErrBad)
		wantRight(t, b, moving(), times[i%len(times)], false, api.ErrBad)
		wantRight(t, b, level(64), whole(1), false, api.ErrBad)
	}
	for e, list := range badFields() {
		for _, f := range list {
			for _, at := range times {
				wantRight(t, example(), f, at, false, e)
				wantRight(t, of(ids(7)), f, at, false, e)
			}
		}
	}
	for _, f := range fields() {
		for _, at := range badTimes() {
			wantRight(t, example(), f, at, false, api.ErrBad)
			wantRight(t, of(ids(-1)), f, at, false, api.ErrBad)
		}
	}
}

// P10.3: Right, against the definition.
func TestRightByDefinition(t *testing.T) {
	m := mixer(106)
	yes, no, none := 0, 0, 0
	for i := range 30000 {
		s := m.stage(1 + i%9)
		if i%100 == 0 {
			s = m.stage(64)
		}
		switch m.below(6) {
		case 0:
			s.f = without(s.f, m.pick(append(idsOf(s.f), -1)...))
		case 1:
			s.at = m.time(s.f)
		}
		want, e := whetherRight(s.b, s.f, s.at)
		wantRight(t, s.b, s.f, s.at, want, e)
		switch {
		case e != api.OK:
			none++
		case want:
			yes++
		default:
			no++
		}
	}
	enough(t, yes)
	enough(t, no)
	enough(t, none)
}
