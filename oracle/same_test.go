package oracle_test

import (
	"slices"
	"testing"

	"peloton/api"
	"peloton/oracle"
)

func wantSame(t *testing.T, a, b api.Reply, want bool) {
	t.Helper()
	if oracle.Same(a, b) != want || oracle.Same(b, a) != want {
		t.Error(a, b, "and not", want)
	}
}

// full is a reply of which each number is another one; no ask has such a reply.
func full() api.Reply {
	return api.Reply{Err: 3, ID: 4, Other: 5, Value: frac(6, 7), Meetings: []api.Meeting{hit(frac(8, 9), 10, 11), hit(frac(12, 13), 14, 15), hit(frac(16, 17), 18, 19)}}
}

// onReply and onMeeting change one number of a reply, or of a meeting, by as much as they are told.
func onReply() []func(r *api.Reply, by int64) {
	return []func(r *api.Reply, by int64){
		func(r *api.Reply, by int64) { r.Err += api.Errno(by) },
		func(r *api.Reply, by int64) { r.ID += int(by) },
		func(r *api.Reply, by int64) { r.Other += int(by) },
		func(r *api.Reply, by int64) { r.Value.Num += by },
		func(r *api.Reply, by int64) { r.Value.Den += by },
	}
}

func onMeeting() []func(m *api.Meeting, by int64) {
	return []func(m *api.Meeting, by int64){
		func(m *api.Meeting, by int64) { m.At.Num += by },
		func(m *api.Meeting, by int64) { m.At.Den += by },
		func(m *api.Meeting, by int64) { m.I += int(by) },
		func(m *api.Meeting, by int64) { m.J += int(by) },
	}
}

// changes are numbers that are added, also those that a number of fewer bits would lose.
func changes() []int64 {
	return []int64{1, -1, 2, 256, 1 << 16, 1 << 31, 1 << 32, -1 << 32, least}
}

// P12.1: replies that differ in one number are not the same; with the same numbers they are, also in memory of their own.
func TestSameNumbers(t *testing.T) {
	for _, r := range []api.Reply{full(), {}, fails(api.ErrPast), leads(1, whole(4)), isClosest(1, 5, whole(0))} {
		wantSame(t, r, copiesOf([]api.Reply{r})[0], true)
		for _, change := range onReply() {
			for _, by := range changes() {
				other := copiesOf([]api.Reply{r})[0]
				change(&other, by)
				wantSame(t, r, other, false)
			}
		}
	}
}

// P12.1: the meetings of replies are the same if they are as many, and each one is the same.
func TestSameMeetings(t *testing.T) {
	r := full()
	for i := range r.Meetings {
		for _, change := range onMeeting() {
			for _, by := range changes() {
				other := copiesOf([]api.Reply{r})[0]
				change(&other.Meetings[i], by)
				wantSame(t, r, other, false)
			}
		}
		for k := range r.Meetings {
			other := copiesOf([]api.Reply{r})[0]
			other.Meetings[i], other.Meetings[k] = other.Meetings[k], other.Meetings[i]
			wantSame(t, r, other, i == k)
		}
		other := copiesOf([]api.Reply{r})[0]
		other.Meetings = slices.Delete(other.Meetings, i, i+1)
		wantSame(t, r, other, false)
		for k := range len(r.Meetings) + 1 {
			other := copiesOf([]api.Reply{r})[0]
			other.Meetings = slices.Insert(other.Meetings, k, other.Meetings[i])
			wantSame(t, r, other, false)
		}
	}
}

// P12.1 and R3: without meetings replies are the same, whether these are nil or empty; with one they are not.
func TestSameWithoutMeetings(t *testing.T) {
	none := [][]api.Meeting{nil, {}, make([]api.Meeting, 0, 9), full().Meetings[:0]}
	for _, r := range []api.Reply{{}, full(), leads(1, whole(4))} {
		for _, x := range none {
			for _, y := range none {
				a, b := r, r
				a.Meetings, b.Meetings = x, y
				wantSame(t, a, b, true)
				b.Meetings = []api.Meeting{{}}
				wantSame(t, a, b, false)
			}
		}
	}
}

// P12.1: any replies are compared, number by number: fractions that are not in lowest terms stand for nothing.
func TestSameOfAny(t *testing.T) {
	wantSame(t, leads(1, frac(1, 2)), leads(1, frac(2, 4)), false)
	wantSame(t, leads(1, frac(0, 1)), leads(1, frac(0, 0)), false)
	wantSame(t, leads(1, frac(1, -2)), leads(1, frac(-1, 2)), false)
	wantSame(t, leads(1, frac(5, 0)), leads(1, frac(5, 0)), true)
	wantSame(t, isClosest(1, 2, whole(3)), isClosest(2, 1, whole(3)), false)
	wantSame(t, api.Reply{Err: least, ID: most, Other: least, Value: frac(least, least)}, api.Reply{Err: least, ID: most, Other: least, Value: frac(least, least)}, true)
	wantSame(t, met(hit(whole(1), 1, 2)), met(hit(whole(1), 2, 1)), false)
	wantSame(t, met(hit(frac(2, 2), 1, 2)), met(hit(whole(1), 1, 2)), false)
	long := met(slices.Repeat(full().Meetings, 5000)...)
	other := copiesOf([]api.Reply{long})[0]
	wantSame(t, long, other, true)
	other.Meetings[14999].J++
	wantSame(t, long, other, false)
}
