package course

import (
	"math"
	"testing"

	"peloton/api"
	"peloton/ratio"
)

// badPoints are points that are not valid, each one for another reason, and some for several.
func badPoints() []api.Point {
	return []api.Point{
		pt(-1, 0, 0), pt(api.MaxID+1, 0, 0), pt(math.MinInt, 0, 0), pt(math.MaxInt, 0, 0),
		pt(1, coord+1, 0), pt(1, -coord-1, 0), pt(1, 0, coord+1), pt(1, 0, -coord-1),
		pt(1, most, 0), pt(1, least, 0), pt(1, 0, most), pt(1, 0, least),
		pt(-1, coord+1, coord+1), pt(math.MinInt, least, least), pt(math.MaxInt, most, most),
	}
}

// badTimes are fractions that are not valid, each one for another reason.
func badTimes() []api.Ratio {
	return []api.Ratio{
		frac(0, 0), frac(1, 0), frac(0, 2), frac(0, -1), frac(2, 2), frac(6, 4), frac(-6, 4),
		frac(3, -2), frac(least, 1), frac(least, 3), frac(1, least), frac(least, least), frac(most, most),
	}
}

// wantAt fails unless At returns e and no more.
func wantAt(t *testing.T, e api.Errno, p api.Point, at api.Ratio) {
	t.Helper()
	if r, f := At(p, at); r != frac(0, 0) || f != e {
		t.Fatal(p, at, r, f)
	}
}

// wantPair fails unless Ahead and Fails return e and no more.
func wantPair(t *testing.T, e api.Errno, p, q api.Point, at api.Ratio) {
	t.Helper()
	if ok, f := Ahead(p, q, at); ok || f != e {
		t.Fatal("ahead", p, q, at, ok, f)
	}
	if r, ok, f := Fails(p, q, at); r != frac(0, 0) || ok || f != e {
		t.Fatal("fails", p, q, at, r, ok, f)
	}
}

func wantMeet(t *testing.T, e api.Errno, p, q api.Point) {
	t.Helper()
	if r, f := Meet(p, q); r != frac(0, 0) || f != e {
		t.Fatal("meet", p, q, r, f)
	}
}

// R1 and R6: a point that is not valid is ErrBad, whatever else there is, with zero values.
func TestBadPoints(t *testing.T) {
	// The first two have the same ID as some of the bad ones.
	good := []api.Point{pt(1, 0, 0), pt(1, coord, coord), pt(0, 3, -2), pt(api.MaxID, -coord, 1)}
	for _, b := range badPoints() {
		if e := Check(b); e != api.ErrBad {
			t.Fatal(b, e)
		}
		for _, at := range append(badTimes(), times()...) {
			wantAt(t, api.ErrBad, b, at)
			for _, g := range append(good, badPoints()...) {
				wantPair(t, api.ErrBad, b, g, at)
				wantPair(t, api.ErrBad, g, b, at)
				wantMeet(t, api.ErrBad, b, g)
				wantMeet(t, api.ErrBad, g, b)
			}
		}
	}
}

// R1 and R6: a time that is not valid is ErrBad, also for points with the same ID or the same way.
func TestBadTimes(t *testing.T) {
	for _, at := range badTimes() {
		for _, p := range points() {
			wantAt(t, api.ErrBad, p, at)
			for _, q := range points() {
				wantPair(t, api.ErrBad, p, q, at)
			}
		}
	}
}

// R1: points with the same ID are ErrArg, whatever else they are, and also where they never meet.
func TestSameID(t *testing.T) {
	for _, p := range points() {
		for _, q := range points() {
			q.ID = p.ID
			wantMeet(t, api.ErrArg, p, q)
			for _, at := range times() {
				wantPair(t, api.ErrArg, p, q, at)
			}
		}
	}
}

// R1 and R7: whatever the arguments are, nothing panics, and errors are those of the promises, in their order.
func TestWhateverComes(t *testing.T) {
	all := append(append(points(), badPoints()...), pt(1, 0, 3), pt(5, 7, 0))
	at := append(badTimes(), times()...)
	for i, p := range all {
		for j, q := range all {
			now := at[(i*31+j*7)%len(at)]
			bad := Check(p) != api.OK || Check(q) != api.OK
			want, meet := api.OK, api.OK
			if p.B == q.B {
				meet = api.ErrNone
			}
			if p.ID == q.ID {
				want, meet = api.ErrArg, api.ErrArg
			}
			if ratio.Check(now) != api.OK {
				want = api.ErrBad
			}
			if bad {
				want, meet = api.ErrBad, api.ErrBad
			}
			if _, e := Ahead(p, q, now); e != want {
				t.Fatal("ahead", p, q, now, e)
			}
			if _, _, e := Fails(p, q, now); e != want {
				t.Fatal("fails", p, q, now, e)
			}
			if _, e := Meet(p, q); e != meet {
				t.Fatal("meet", p, q, e)
			}
		}
	}
}

// R2: nothing is kept from call to call.
func TestNothingIsKept(t *testing.T) {
	type answer struct {
		place, meeting, failure api.Ratio
		ahead, fails            bool
		errors                  [5]api.Errno
	}
	all := append(points(), badPoints()...)
	at := append(badTimes(), times()...)
	ask := func(i int) answer {
		p, q, now := all[i%len(all)], all[(i*7+3)%len(all)], at[(i*5+1)%len(at)]
		var x answer
		x.errors[0] = Check(p)
		x.place, x.errors[1] = At(p, now)
		x.ahead, x.errors[2] = Ahead(p, q, now)
		x.meeting, x.errors[3] = Meet(p, q)
		x.failure, x.fails, x.errors[4] = Fails(p, q, now)
		return x
	}
	first := make([]answer, 2000)
	for i := range first {
		first[i] = ask(i)
	}
	for i := len(first) - 1; i >= 0; i-- {
		if x := ask(i); x != first[i] {
			t.Fatal(i, x, first[i])
		}
	}
}

// The examples of the chapter, and the second one of the whole.
func TestExamples(t *testing.T) {
	one, two := pt(1, 0, 2), pt(2, 6, -1)
	if r, e := Meet(one, two); r != frac(2, 1) || e != api.OK {
		t.Error(r, e)
	}
	for _, p := range []api.Point{one, two} {
		if r, e := At(p, frac(2, 1)); r != frac(4, 1) || e != api.OK {
			t.Error(p, r, e)
		}
	}
	if !ahead(t, two, one, frac(1, 1)) || !ahead(t, one, two, frac(2, 1)) || !ahead(t, one, two, frac(5, 2)) {
		t.Error("who is ahead")
	}
	if r, ok, e := Fails(two, one, frac(0, 1)); r != frac(2, 1) || !ok || e != api.OK {
		t.Error(r, ok, e)
	}
	if r, ok, e := Fails(two, one, frac(3, 1)); r != frac(3, 1) || !ok || e != api.OK {
		t.Error(r, ok, e)
	}
	if r, ok, e := Fails(one, two, frac(2, 1)); r != frac(0, 0) || ok || e != api.OK {
		t.Error(r, ok, e)
	}
	if !ahead(t, pt(3, 8, 5), pt(4, 8, 5), frac(1, 2)) {
		t.Error("the lesser ID")
	}
}
