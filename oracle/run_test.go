package oracle_test

import (
	"slices"
	"testing"

	"peloton/api"
	"peloton/oracle"
)

// wantRun fails unless Run of a valid model returns this one, with these replies.
func wantRun(t *testing.T, m api.Model, l []api.Ask, next api.Model, want []api.Reply) {
	t.Helper()
	n, list, e := oracle.Run(m, l)
	if !sameModel(n, next) || !sameReplies(list, want) || e != api.OK {
		t.Fatal(m, l, "is", n, list, e, "and not", next, want)
	}
}

// wantNoRun fails unless Run has this error, and nothing else.
func wantNoRun(t *testing.T, m api.Model, l []api.Ask, want api.Errno) {
	t.Helper()
	if n, list, e := oracle.Run(m, l); !sameModel(n, api.Model{}) || len(list) > 0 || e != want {
		t.Fatal(m, l, n, list, e)
	}
}

// P12.2: Run does asks one after the other; those that have an error are replied to, and change nothing.
func TestRun(t *testing.T) {
	m := at(whole(-1), points(pt(1, 0, 2)))
	wantRun(t, m, []api.Ask{
		askClose(), put(pt(2, 6, -1)), put(pt(2, 7, 7)), put(pt(5, 0, 0)), askLead(), move(whole(-1)), move(whole(0)), {Kind: 9}, askClose(), take(3), move(whole(0)),
		move(whole(2)), askLead(), change(pt(3, 0, 0)), change(pt(5, 0, 2)), askClose(), move(frac(2, 2)), move(whole(far + 1)), plus(take(5), put(pt(1, 0, 0))), take(2), askLead(), put(pt(-1, 0, 0)), askClose(), move(whole(9)),
	}, at(whole(9), points(pt(1, 0, 2), pt(5, 0, 2))), []api.Reply{
		fails(api.ErrEmpty), {}, fails(api.ErrTwice), {}, leads(2, whole(7)), fails(api.ErrPast), met(hit(whole(0), 1, 5)), fails(api.ErrForm), isClosest(1, 5, whole(0)), fails(api.ErrNone), fails(api.ErrPast),
		met(hit(whole(2), 1, 2)), leads(1, whole(4)), fails(api.ErrNone), {}, isClosest(1, 2, whole(0)), fails(api.ErrBad), fails(api.ErrArg), fails(api.ErrForm), {}, leads(1, whole(4)), fails(api.ErrBad), isClosest(1, 5, whole(0)), {},
	})
}

// P12.2: without asks the model stays, and there are no replies.
func TestRunOfNone(t *testing.T) {
	for _, m := range goodModels() {
		for _, l := range [][]api.Ask{nil, {}, make([]api.Ask, 0, 9)} {
			wantRun(t, m, l, m, nil)
		}
	}
}

// P12.2: 120 asks are done, whatever they are; 121 are ErrMany, and so are more.
func TestRunOfMany(t *testing.T) {
	for _, m := range []api.Model{at(whole(0), api.Field{}), at(whole(1), moving()), at(whole(-1), level(64))} {
		for _, a := range []api.Ask{askLead(), askClose(), {}, take(1), put(pt(3, 1, 1)), move(whole(5)), change(pt(-1, 0, 0))} {
			for _, n := range []int{1, 119, 120} {
				l := slices.Repeat([]api.Ask{a}, n)
				next, replies := afterAll(m, l)
				wantRun(t, m, l, next, replies)
			}
			for _, n := range []int{121, 122, 240, 1000} {
				wantNoRun(t, m, slices.Repeat([]api.Ask{a}, n), api.ErrMany)
			}
		}
	}
	// Each of 120 asks changes something.
	var l []api.Ask
	for i := range 60 {
		l = append(l, put(pt(i*1000, int64(i*i), int64(-i))), move(whole(int64(i))))
	}
	next, replies := afterAll(at(whole(-1), api.Field{}), l)
	if len(next.Field.Points) != 60 || next.Now != whole(59) {
		t.Fatal(next)
	}
	wantRun(t, at(whole(-1), api.Field{}), l, next, replies)
}

// P12.2 and R1: the model's error comes first, also before that of too many asks.
func TestRunOfBadModels(t *testing.T) {
	for _, m := range badModels() {
		for _, n := range []int{0, 1, 120, 121, 500} {
			wantNoRun(t, m, slices.Repeat([]api.Ask{askLead()}, n), api.ErrBad)
			wantNoRun(t, m, slices.Repeat([]api.Ask{{}}, n), api.ErrBad)
		}
	}
}

// P12.2 and R1: Do of a model that is not valid is ErrBad, and has neither a model nor a reply, whatever the ask is.
func TestDoOfBadModels(t *testing.T) {
	for i, m := range badModels() {
		for k, a := range append(formed(at(whole(1), moving())), malformed(at(whole(1), moving()))...) {
			if (i+k)%7 != 0 {
				continue
			}
			if n, r, e := oracle.Do(m, a); !sameModel(n, api.Model{}) || !sameReply(r, api.Reply{}) || e != api.ErrBad {
				t.Fatal(m, a, n, r, e)
			}
		}
	}
}
