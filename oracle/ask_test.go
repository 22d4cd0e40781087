package oracle_test

import (
	"testing"

	"peloton/api"
)

// P12.2: an ask with a kind that is none of the six is ErrForm, whatever else it has.
func TestOtherKinds(t *testing.T) {
	for _, m := range goodModels() {
		for _, k := range kinds() {
			for _, a := range append(parts(), put(pt(9, 1, 1)), take(1), move(whole(far)), askLead()) {
				a.Kind = k
				wantReply(t, m, a, fails(api.ErrForm))
			}
		}
	}
}

// P12.2: what a kind does not use must be 0, each number of it.
func TestWhatIsNotUsed(t *testing.T) {
	m := at(whole(1), moving())
	none := func(api.Ask) bool { return false }
	hasPoint := func(a api.Ask) bool { return a.Point != pt(0, 0, 0) }
	for _, x := range []struct {
		a    api.Ask
		used func(part api.Ask) bool
		want api.Reply
	}{
		{put(pt(9, 3, 3)), hasPoint, api.Reply{}},
		{put(pt(2, 3, 3)), hasPoint, fails(api.ErrTwice)},
		{take(1), func(a api.Ask) bool { return a.ID != 0 }, api.Reply{}},
		{take(7), func(a api.Ask) bool { return a.ID != 0 }, fails(api.ErrNone)},
		{change(pt(2, 3, 3)), hasPoint, api.Reply{}},
		{change(pt(2, most, 3)), hasPoint, fails(api.ErrBad)},
		{move(whole(6)), func(a api.Ask) bool { return a.At != frac(0, 0) }, met(hit(whole(2), 1, 2), hit(whole(6), 2, 5))},
		{move(whole(0)), func(a api.Ask) bool { return a.At != frac(0, 0) }, fails(api.ErrPast)},
		{askLead(), none, leads(2, whole(5))},
		{askClose(), none, isClosest(1, 5, whole(2))},
	} {
		next, _ := after(m, x.a)
		wantDo(t, m, x.a, next, x.want)
		for _, part := range parts() {
			if !x.used(part) {
				wantReply(t, m, plus(x.a, part), fails(api.ErrForm))
			}
		}
	}
}

// P12.2 and R1: what is not well-formed is ErrForm before all other errors, and also where these would come without it.
func TestFormComesFirst(t *testing.T) {
	seen := 0
	for _, m := range goodModels() {
		for _, a := range malformed(m) {
			wantReply(t, m, a, fails(api.ErrForm))
			seen++
		}
	}
	enough(t, seen)
	for _, m := range []api.Model{at(whole(1), api.Field{}), at(whole(1), level(64))} {
		for _, p := range noPoints() {
			wantReply(t, m, plus(put(p), take(1)), fails(api.ErrForm))
			wantReply(t, m, plus(change(p), move(whole(far))), fails(api.ErrForm))
		}
		for _, to := range append(noTimes(), notAsked()...) {
			wantReply(t, m, plus(move(to), put(pt(0, 0, 1))), fails(api.ErrForm))
			wantReply(t, m, plus(move(to), take(-1)), fails(api.ErrForm))
		}
		wantReply(t, m, plus(take(99), put(pt(0, 1, 0))), fails(api.ErrForm))
		wantReply(t, m, plus(askLead(), take(1)), fails(api.ErrForm))
		wantReply(t, m, plus(askClose(), move(whole(2))), fails(api.ErrForm))
	}
}

// P12.2: an ask of which all numbers are 0 is well-formed if its kind is one of the six.
func TestAllZero(t *testing.T) {
	empty := at(whole(3), api.Field{})
	wantReply(t, empty, api.Ask{}, fails(api.ErrForm))
	wantDo(t, empty, api.Ask{Kind: 1}, at(whole(3), points(pt(0, 0, 0))), api.Reply{})
	wantReply(t, empty, api.Ask{Kind: 2}, fails(api.ErrNone))
	wantReply(t, empty, api.Ask{Kind: 3}, fails(api.ErrNone))
	wantReply(t, empty, api.Ask{Kind: 4}, fails(api.ErrBad))
	wantReply(t, empty, api.Ask{Kind: 5}, fails(api.ErrEmpty))
	wantReply(t, empty, api.Ask{Kind: 6}, fails(api.ErrEmpty))
	wantReply(t, empty, api.Ask{Kind: 7}, fails(api.ErrForm))
	zero := at(whole(3), points(pt(0, 5, 5), pt(1, 0, 0)))
	wantReply(t, zero, api.Ask{Kind: 1}, fails(api.ErrTwice))
	wantDo(t, zero, api.Ask{Kind: 2}, at(whole(3), points(pt(1, 0, 0))), api.Reply{})
	wantDo(t, zero, api.Ask{Kind: 3}, at(whole(3), points(pt(0, 0, 0), pt(1, 0, 0))), api.Reply{})
}
