package meet_test

import (
	"slices"
	"testing"

	"peloton/api"
	"peloton/field"
	"peloton/meet"
	"peloton/ratio"
)

// badPoints are points that are not valid, each one for another reason.
func badPoints() []api.Point {
	return []api.Point{
		pt(-1, 0, 0), pt(api.MaxID+1, 0, 0), pt(least, 0, 0), pt(most, 0, 0),
		pt(4, coord+1, 0), pt(4, -coord-1, 0), pt(4, 0, coord+1), pt(4, 0, -coord-1),
		pt(4, most, 0), pt(4, least, 0), pt(4, 0, most), pt(4, 0, least), pt(-5, least, most),
	}
}

// badTimes are fractions that are not valid, each one for another reason.
func badTimes() []api.Ratio {
	return []api.Ratio{
		frac(0, 0), frac(1, 0), frac(0, 2), frac(0, -1), frac(2, 2), frac(6, 4), frac(-6, 4),
		frac(3, -2), frac(least, 1), frac(least, 3), frac(1, least), frac(least, least), frac(most, most),
	}
}

// badFields are fields that are not valid, with the error of each one: too many points, a point that is not valid, IDs that do not increase, and several of these.
func badFields() map[api.Errno][]api.Field {
	list := map[api.Errno][]api.Field{
		api.ErrMany: {
			many(65, 0, func(i int64) (a, b int64) { return -i * i, i }),
			many(65, api.MaxID-10, func(i int64) (a, b int64) { return i, -i }),
			{Points: make([]api.Point, 65)},
			{Points: make([]api.Point, 5000)},
			{Points: slices.Repeat(badPoints(), 6)},
		},
		api.ErrBad: {of(pt(5, 0, 0), pt(5, 0, 0), pt(-1, 0, 0)), {Points: slices.Repeat(badPoints(), 4)}},
		api.ErrOrder: {
			of(pt(1, 0, 0), pt(1, 0, 1)), of(pt(2, 0, 0), pt(1, 0, 1)), of(pt(1, 0, 2), pt(2, 6, -1), pt(1, 3, 3)),
			{Points: make([]api.Point, 64)},
		},
	}
	for _, p := range badPoints() {
		list[api.ErrBad] = append(list[api.ErrBad], of(p), of(pt(1, 0, 2), p), of(p, pt(5, 0, 0)), of(pt(5, 0, 0), p, pt(3, 0, 0)))
	}
	return list
}

// answer is all that the functions return for some arguments.
type answer struct {
	all          []api.Meeting
	count, swaps int
	next         api.Meeting
	last         api.Ratio
	errors       [5]api.Errno
}

func ask(f api.Field, from, to api.Ratio) answer {
	var x answer
	x.all, x.errors[0] = meet.All(f, from, to)
	x.count, x.errors[1] = meet.Count(f, from, to)
	x.swaps, x.errors[2] = meet.Swaps(f, from, to)
	x.next, x.errors[3] = meet.Next(f, from)
	x.last, x.errors[4] = meet.Last(f)
	return x
}

func (x answer) same(y answer) bool {
	return slices.Equal(x.all, y.all) && x.count == y.count && x.swaps == y.swaps && x.next == y.next && x.last == y.last && x.errors == y.errors
}

// clean reports whether there is nothing beside each error.
func (x answer) clean() bool {
	return (x.errors[0] == api.OK || len(x.all) == 0) &&
		(x.errors[1] == api.OK || x.count == 0) &&
		(x.errors[2] == api.OK || x.swaps == 0) &&
		(x.errors[3] == api.OK || x.next == none) &&
		(x.errors[4] == api.OK || x.last == frac(0, 0))
}

// wantError fails unless the answer has these errors, those of All, Count and Swaps first, then those of Next and Last, and nothing else.
func wantError(t *testing.T, f api.Field, from, to api.Ratio, between, next, last api.Errno) {
	t.Helper()
	x := ask(f, from, to)
	if x.errors != [5]api.Errno{between, between, between, next, last} || !x.clean() {
		t.Fatal(f, from, to, x)
	}
}

// someTimes are times that are valid, and others that are not.
func someTimes() []api.Ratio {
	return append(badTimes(), frac(-most, 1), frac(-1, most), frac(0, 1), frac(1, 2), frac(2, 1), frac(most, 1))
}

// R1 and R6: the error of a field comes first, whatever the times are.
func TestBadFields(t *testing.T) {
	for e, list := range badFields() {
		for _, f := range list {
			for _, from := range someTimes() {
				for _, to := range someTimes() {
					wantError(t, f, from, to, e, e, e)
				}
			}
		}
	}
}

// R1 and R6: a time that is not valid is ErrBad, whichever it is, also where the other one is less or greater, and where there are no points.
func TestBadTimes(t *testing.T) {
	for _, f := range []api.Field{{}, example(), of(pt(1, 2, 3)), crowd(), of(pt(1, 0, 2), pt(2, 6, 2))} {
		last, lastError := meet.Last(f)
		for _, bad := range badTimes() {
			for _, other := range someTimes() {
				x, y := ask(f, bad, other), ask(f, other, bad)
				for i := range 3 {
					if x.errors[i] != api.ErrBad || y.errors[i] != api.ErrBad {
						t.Fatal(i, f, bad, other, x, y)
					}
				}
				if !x.clean() || !y.clean() || x.errors[3] != api.ErrBad || x.errors[4] != lastError || x.last != last {
					t.Fatal(f, bad, other, x, y)
				}
			}
		}
	}
}

// R1: from greater than to is ErrArg, also where there are no points, and no meeting is between; the same times are not.
func TestFromBehindTo(t *testing.T) {
	forCuts(func(f api.Field, all []told, at []api.Ratio) {
		for i, to := range at {
			for j := i; j < len(at); j += 2 + len(f.Points)/2 {
				e := api.ErrArg
				if j == i {
					e = api.OK
				}
				x := ask(f, at[j], to)
				if x.errors[0] != e || x.errors[1] != e || x.errors[2] != e || !x.clean() {
					t.Fatal(f, at[j], to, x)
				}
			}
		}
	})
	wantError(t, example(), frac(1, most-1), frac(1, most), api.ErrArg, api.OK, api.OK)
	wantError(t, example(), frac(-1, most), frac(-1, most-1), api.ErrArg, api.OK, api.OK)
	wantError(t, example(), frac(6, 1), frac(2, 1), api.ErrArg, api.ErrNone, api.OK)
	wantError(t, field.New(), frac(1, 1), frac(0, 1), api.ErrArg, api.ErrNone, api.ErrNone)
	wantError(t, field.New(), frac(0, 1), frac(0, 1), api.OK, api.ErrNone, api.ErrNone)
}

// P4.1 to P4.3: one point more than there may be is ErrMany, though MaxPoints points have answers.
func TestOneMore(t *testing.T) {
	way := func(i int64) (a, b int64) { return -i * i, i }
	wantError(t, many(64, 0, way), frac(0, 1), frac(9, 1), api.OK, api.OK, api.OK)
	wantError(t, many(65, 0, way), frac(0, 1), frac(9, 1), api.ErrMany, api.ErrMany, api.ErrMany)
}

// R1 and R7: whatever the arguments are, nothing panics, the error is the first one that applies, and there is nothing else.
func TestWhateverComes(t *testing.T) {
	list := fields()
	for _, bad := range badFields() {
		list = append(list, bad...)
	}
	for _, f := range list {
		for i, from := range someTimes() {
			for j, to := range someTimes() {
				if (i+j)%3 != 0 {
					continue
				}
				x, bad := ask(f, from, to), field.Check(f)
				between, next := bad, bad
				if bad == api.OK {
					between, next = timeErrors(t, from, to)
				}
				fine := x.errors[0] == between && x.errors[1] == between && x.errors[2] == between
				fine = fine && (x.errors[3] == next || next == api.OK && x.errors[3] == api.ErrNone)
				fine = fine && (x.errors[4] == bad || bad == api.OK && x.errors[4] == api.ErrNone)
				if !fine || !x.clean() {
					t.Fatal(f, from, to, x)
				}
			}
		}
	}
}

// timeErrors are the errors of two times, and of the first one alone.
func timeErrors(t *testing.T, from, to api.Ratio) (both, alone api.Errno) {
	alone = ratio.Check(from)
	switch {
	case alone != api.OK || ratio.Check(to) != api.OK:
		return api.ErrBad, alone
	case isLater(t, from, to):
		return api.ErrArg, alone
	}
	return api.OK, alone
}

// R2: nothing is kept from call to call.
func TestNothingIsKept(t *testing.T) {
	list, at := fields(), append(badTimes(), times()...)
	list = append(list, badFields()[api.ErrBad]...)
	asked := func(i int) answer {
		return ask(list[i*7%len(list)], at[i*5%len(at)], at[(i*11+3)%len(at)])
	}
	before := make([]answer, 1000)
	for i := range before {
		before[i] = asked(i)
		// A copy, as otherwise a result that is written over later would look right.
		before[i].all = slices.Clone(before[i].all)
	}
	for i := len(before) - 1; i >= 0; i-- {
		if x := asked(i); !x.same(before[i]) {
			t.Fatal(i, x, before[i])
		}
	}
}

// fenced is a field with the same points, behind and before others in the same memory, and that memory.
func fenced(f api.Field) (api.Field, []api.Point) {
	const fence = 70
	memory := slices.Repeat([]api.Point{pt(-7, 77, 777)}, fence+len(f.Points)+fence)
	copy(memory[fence:], f.Points)
	return api.Field{Points: memory[fence : fence+len(f.Points)]}, memory
}

// R2: arguments are left as they were, also the memory behind a slice, and what comes behind it changes no result.
func TestArgumentsAreLeft(t *testing.T) {
	list := fields()
	for _, bad := range badFields() {
		list = append(list, bad...)
	}
	for i, f := range list {
		g, memory := fenced(f)
		before := slices.Clone(memory)
		for j, to := range someTimes() {
			from := times()[(i+j)%len(times())]
			x, y := ask(g, from, to), ask(f, from, to)
			if !slices.Equal(memory, before) {
				t.Fatal("changed", f, from, to)
			}
			if !x.same(y) {
				t.Fatal("not the same", f, from, to, x, y)
			}
		}
	}
}

// spoil writes over all of a slice, up to its capacity.
func spoil[T any](list []T, with T) {
	list = list[:cap(list)]
	for i := range list {
		list[i] = with
	}
}

// R2: results share no memory with arguments, nor with each other.
func TestResultsAreNewMemory(t *testing.T) {
	seen := 0
	for _, f := range fields() {
		g, memory := fenced(f)
		before := slices.Clone(memory)
		for i, from := range times() {
			if len(f.Points) > 40 && i%3 != 0 {
				continue
			}
			to := times()[(i+9)%len(times())]
			kept := ask(f, from, to)
			kept.all = slices.Clone(kept.all)
			x, y := ask(g, from, to), ask(g, from, to)
			seen += len(x.all)
			spoil(x.all, hit(-9, 9, 9, -9))
			if !slices.Equal(memory, before) {
				t.Fatal("a result is an argument", f, from, to)
			}
			if !y.same(kept) || !ask(g, from, to).same(kept) {
				t.Fatal("a result shares memory", f, from, to, y, kept)
			}
			spoil(memory, pt(-8, 8, 88))
			if !y.same(kept) {
				t.Fatal("a result shares memory with an argument", f, from, to, y, kept)
			}
			copy(memory, before)
		}
	}
	enough(t, seen)
}

// R3: a field without points is the same one, nil or not.
func TestNilAndEmpty(t *testing.T) {
	for _, from := range someTimes() {
		for _, to := range someTimes() {
			x, y, z := ask(api.Field{}, from, to), ask(of([]api.Point{}...), from, to), ask(api.Field{Points: make([]api.Point, 0, 9)}, from, to)
			if !x.same(y) || !x.same(z) {
				t.Fatal(from, to, x, y, z)
			}
		}
	}
}

// The examples of the chapter, and the fourth one of the whole.
func TestExamples(t *testing.T) {
	l, e := meet.All(example(), frac(-1, 1), frac(6, 1))
	if !slices.Equal(l, []api.Meeting{hit(0, 1, 1, 5), hit(2, 1, 1, 2), hit(6, 1, 2, 5)}) || e != api.OK {
		t.Error(l, e)
	}
	if n, e := meet.Count(example(), frac(-1, 1), frac(6, 1)); n != 3 || e != api.OK {
		t.Error(n, e)
	}
	if n, e := meet.Count(example(), frac(0, 1), frac(5, 1)); n != 1 || e != api.OK {
		t.Error(n, e)
	}
	if r, e := meet.Last(example()); r != frac(6, 1) || e != api.OK {
		t.Error(r, e)
	}
}
