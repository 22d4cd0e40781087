package oracle_test

import (
	"slices"
	"testing"

	"peloton/api"
)

// wantMove fails unless time goes on to another one, with these meetings, and the points stay.
func wantMove(t *testing.T, m api.Model, to api.Ratio, list ...api.Meeting) {
	t.Helper()
	wantDo(t, m, move(to), at(to, m.Field), met(list...))
}

// P12.2: AskMove goes on to a time, with the meetings that come between both: after now, and up to this time.
func TestMove(t *testing.T) {
	seen := 0
	for _, m := range goodModels() {
		for _, to := range asked() {
			if exact(to).Cmp(exact(m.Now)) > 0 {
				list := meetings(m.Field, m.Now, to)
				wantMove(t, m, to, list...)
				seen += len(list)
			}
		}
	}
	enough(t, seen)
}

// P12.2: what is no valid fraction is ErrBad, and what is not asked for ErrArg, also where it is before now.
func TestMoveToOtherTimes(t *testing.T) {
	for _, m := range goodModels() {
		for _, to := range noTimes() {
			wantReply(t, m, move(to), fails(api.ErrBad))
		}
		for _, to := range notAsked() {
			wantReply(t, m, move(to), fails(api.ErrArg))
		}
	}
}

// P12.2: the time that is now, and those before it, are ErrPast; those just after it are not.
func TestMoveBack(t *testing.T) {
	for _, m := range goodModels() {
		wantReply(t, m, move(m.Now), fails(api.ErrPast))
		for _, to := range asked() {
			if exact(to).Cmp(exact(m.Now)) < 0 {
				wantReply(t, m, move(to), fails(api.ErrPast))
			}
		}
	}
	for _, x := range []struct{ now, before, behind api.Ratio }{
		{whole(0), frac(-1, fine), frac(1, fine)}, {frac(1, 2), frac(511, 1023), frac(512, 1023)}, {frac(-7, 3), frac(-1195, 512), frac(-2389, 1024)},
		{frac(1, fine), whole(0), frac(1, fine-1)}, {frac(-1, fine), frac(-1, fine-1), whole(0)}, {whole(far - 1), frac(far-3, 1), whole(far)}, {whole(1 - far), whole(-far), whole(2 - far)},
	} {
		m := at(x.now, moving())
		wantReply(t, m, move(x.before), fails(api.ErrPast))
		wantMove(t, m, x.behind, meetings(moving(), x.now, x.behind)...)
	}
	wantReply(t, at(whole(far), moving()), move(whole(far)), fails(api.ErrPast))
}

// P12.2: a meeting at the time to which it goes is one of them, and one at now is not; just before a meeting there is none.
func TestMoveToMeetings(t *testing.T) {
	m := at(whole(0), moving())
	wantMove(t, m, frac(2047, 1024))
	wantMove(t, m, whole(2), hit(whole(2), 1, 2))
	wantMove(t, m, frac(2049, 1024), hit(whole(2), 1, 2))
	wantMove(t, at(frac(2047, 1024), moving()), whole(2), hit(whole(2), 1, 2))
	wantMove(t, at(whole(2), moving()), frac(6143, 1024))
	wantMove(t, at(whole(2), moving()), whole(6), hit(whole(6), 2, 5))
	wantMove(t, at(whole(6), moving()), whole(far))
	wantMove(t, at(whole(-far), moving()), whole(far), hit(whole(0), 1, 5), hit(whole(2), 1, 2), hit(whole(6), 2, 5))
	wantMove(t, at(whole(-1), moving()), whole(0), hit(whole(0), 1, 5))
}

// P12.2: meetings at one time come by the IDs of their points.
func TestMoveOverMeetingsAtOneTime(t *testing.T) {
	all := []api.Meeting{hit(whole(1), 0, 1), hit(whole(1), 0, 2), hit(whole(1), 0, 3), hit(whole(1), 1, 2), hit(whole(1), 1, 3), hit(whole(1), 2, 3)}
	wantMove(t, at(whole(0), level(4)), whole(1), all...)
	wantMove(t, at(whole(-far), level(4)), whole(far), all...)
	wantMove(t, at(whole(1), level(4)), whole(far))
	wantMove(t, at(whole(-far), level(4)), frac(1023, 1024))
	_, r := done(t, at(whole(0), level(64)), move(whole(1)))
	if len(r.Meetings) != 64*63/2 || r.Meetings[2015] != hit(whole(1), 62, 63) {
		t.Error(r)
	}
	// Two pairs meet at 3, and two at 4, and so on.
	wantMove(t, at(whole(2), crowd(5)), whole(4), hit(whole(3), 0, 3), hit(whole(3), 1, 2), hit(whole(4), 0, 4), hit(whole(4), 1, 3))
}

// P12.2: meetings may be at times that are not asked for themselves; points with the same speed have none.
func TestMoveOverAnyMeetings(t *testing.T) {
	f := points(pt(1, 0, coord), pt(2, 1, -coord), pt(3, 1, 1-coord))
	wantMove(t, at(whole(0), f), frac(1, fine), hit(frac(1, 2*coord), 1, 2), hit(frac(1, 2*coord-1), 1, 3))
	wantMove(t, at(whole(-far), together(9, 1)), whole(far))
	wantMove(t, at(whole(-far), spaced(9, 1)), whole(far))
	wantMove(t, at(whole(-far), points(pt(7, coord, 3))), whole(far))
	wantMove(t, at(whole(-far), api.Field{}), whole(far))
	wide := points(pt(0, coord, 0), pt(1, -coord, 1))
	wantMove(t, at(whole(0), wide), whole(2*coord), hit(whole(2*coord), 0, 1))
	wantMove(t, at(whole(0), wide), whole(2*coord-1))
}

// P12.2: AskLead tells the leader, and its place, which may be beyond all numbers of a point.
func TestLead(t *testing.T) {
	for _, m := range goodModels() {
		wantReply(t, m, askLead(), leaderReply(m))
	}
	wantReply(t, at(whole(2), api.Field{}), askLead(), fails(api.ErrEmpty))
	wantReply(t, at(frac(1, 3), points(pt(9, 5, -1))), askLead(), leads(9, frac(14, 3)))
	wantReply(t, at(frac(1, 3), points(pt(0, 5, -15))), askLead(), leads(0, whole(0)))
	wantReply(t, at(whole(1), points(pt(3, 0, 2), pt(4, 2, 0), pt(5, 3, -1))), askLead(), leads(3, whole(2)))
	wantReply(t, at(whole(1), points(pt(3, 3, -1), pt(4, 2, 0), pt(5, 1, 1))), askLead(), leads(5, whole(2)))
	wantReply(t, at(frac(-1, 2), together(5, 3)), askLead(), leads(3, frac(17, 2)))
	wantReply(t, at(frac(2047, 1024), moving()), askLead(), leads(2, frac(4097, 1024)))
	high := points(pt(1, coord, coord), pt(2, -coord, -coord))
	wantReply(t, at(whole(far), high), askLead(), leads(1, whole(coord+coord*far)))
	wantReply(t, at(whole(-far), high), askLead(), leads(2, whole(coord*far-coord)))
	wantReply(t, at(frac(far-1, fine), high), askLead(), leads(1, whole(coord+coord/fine*(far-1))))
	wantReply(t, at(frac(far, fine-1), points(pt(1, -coord, -coord))), askLead(), leads(1, frac(-coord*(fine-1)-coord*far, fine-1)))
}

// P12.2: AskClose tells the closest pair, and its distance.
func TestClose(t *testing.T) {
	for _, m := range goodModels() {
		wantReply(t, m, askClose(), closestReply(m.Field, m.Now))
	}
	wantReply(t, at(whole(2), api.Field{}), askClose(), fails(api.ErrEmpty))
	wantReply(t, at(whole(2), points(pt(9, 5, -1))), askClose(), fails(api.ErrEmpty))
	wantReply(t, at(frac(1, 2), points(pt(9, 5, -1), pt(12, 0, 2))), askClose(), isClosest(9, 12, frac(7, 2)))
	wantReply(t, at(frac(1, 2), points(pt(9, 0, 2), pt(12, 5, -1))), askClose(), isClosest(9, 12, frac(7, 2)))
	wantReply(t, at(frac(-1, 2), together(5, 3)), askClose(), isClosest(3, 4, whole(0)))
	wantReply(t, at(whole(1), level(64)), askClose(), isClosest(0, 1, whole(0)))
}

// The examples of the chapter.
func TestExamples(t *testing.T) {
	m := at(whole(0), api.Field{})
	for _, p := range slices.Backward(moving().Points) {
		m, _ = done(t, m, put(p))
	}
	wantReply(t, m, askLead(), leads(2, whole(6)))
	wantReply(t, m, askClose(), isClosest(1, 5, whole(0)))
	wantMove(t, m, whole(2), hit(whole(2), 1, 2))
	m, _ = done(t, m, move(whole(2)))
	wantReply(t, m, askLead(), leads(1, whole(4)))
	wantReply(t, m, askClose(), isClosest(1, 2, whole(0)))
	wantReply(t, m, move(whole(1)), fails(api.ErrPast))
	// The tenth one of the whole.
	wantReply(t, at(whole(1), moving()), askClose(), isClosest(1, 5, whole(2)))
}
