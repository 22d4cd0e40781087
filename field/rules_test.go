package field

import (
	"slices"
	"testing"

	"peloton/api"
	"peloton/course"
	"peloton/ratio"
)

// badTimes are fractions that are not valid, each one for another reason.
func badTimes() []api.Ratio {
	return []api.Ratio{
		frac(0, 0), frac(1, 0), frac(0, 2), frac(0, -1), frac(2, 2), frac(6, 4), frac(-6, 4),
		frac(3, -2), frac(least, 1), frac(least, 3), frac(1, least), frac(least, least), frac(most, most),
	}
}

// badFields are fields that are not valid, for each of the three reasons, and for several.
func badFields() []api.Field {
	list := []api.Field{
		many(65, 0, func(i int64) (a, b int64) { return i, -i }),
		{Points: make([]api.Point, 65)},
		{Points: make([]api.Point, 5000)},
		{Points: slices.Repeat(badPoints(), 6)},
		of(pt(1, 0, 0), pt(1, 0, 0)),
		of(pt(2, 0, 0), pt(1, 0, 0)),
		of(pt(5, 0, 0), pt(5, 0, 0), pt(-1, 0, 0)),
		{Points: make([]api.Point, 64)},
	}
	for _, p := range badPoints() {
		list = append(list, of(p), of(pt(1, 0, 2), p), of(p, pt(5, 0, 0)))
	}
	return list
}

// checked is Check by the definition of what is valid, and by the order of its errors.
func checked(f api.Field) api.Errno {
	if len(f.Points) > 64 {
		return api.ErrMany
	}
	if slices.ContainsFunc(f.Points, func(p api.Point) bool { return course.Check(p) != api.OK }) {
		return api.ErrBad
	}
	list := ids(f)
	if !slices.IsSorted(list) || len(slices.Compact(list)) < len(f.Points) {
		return api.ErrOrder
	}
	return api.OK
}

// first is the error that is named first of those that apply.
func first(list ...api.Errno) api.Errno {
	for _, e := range list {
		if e != api.OK {
			return e
		}
	}
	return api.OK
}

// when is an error that applies under a condition.
func when(applies bool, e api.Errno) api.Errno {
	if applies {
		return e
	}
	return api.OK
}

// answer is all that the functions return for some arguments.
type answer struct {
	point                           api.Point
	put, taken, changed             []api.Point
	leader, rank                    int
	order                           []int
	eCheck, eFind, ePut, eTake      api.Errno
	eChange, eLeader, eOrder, eRank api.Errno
}

func ask(f api.Field, p api.Point, at api.Ratio) answer {
	var x answer
	var put, taken, changed api.Field
	x.eCheck = Check(f)
	x.point, x.eFind = Find(f, p.ID)
	put, x.ePut = Put(f, p)
	taken, x.eTake = Take(f, p.ID)
	changed, x.eChange = Change(f, p)
	x.leader, x.eLeader = Leader(f, at)
	x.order, x.eOrder = Order(f, at)
	x.rank, x.eRank = Rank(f, p.ID, at)
	x.put, x.taken, x.changed = put.Points, taken.Points, changed.Points
	return x
}

func (x answer) errors() [8]api.Errno {
	return [8]api.Errno{x.eCheck, x.eFind, x.ePut, x.eTake, x.eChange, x.eLeader, x.eOrder, x.eRank}
}

// wanted are the errors that the promises name, the first one that applies.
func wanted(f api.Field, p api.Point, at api.Ratio) [8]api.Errno {
	bad := checked(f)
	badPoint, badTime := course.Check(p), ratio.Check(at)
	there := slices.Contains(ids(f), p.ID)
	none := when(!there, api.ErrNone)
	return [8]api.Errno{
		bad,
		first(bad, none),
		first(bad, badPoint, when(there, api.ErrTwice), when(len(f.Points) == 64, api.ErrFull)),
		first(bad, none),
		first(bad, badPoint, none),
		first(bad, badTime, when(len(f.Points) == 0, api.ErrEmpty)),
		first(bad, badTime),
		first(bad, badTime, none),
	}
}

// clean reports whether there is nothing beside each error.
func (x answer) clean() bool {
	return (x.eFind == api.OK || x.point == pt(0, 0, 0)) &&
		(x.ePut == api.OK || len(x.put) == 0) &&
		(x.eTake == api.OK || len(x.taken) == 0) &&
		(x.eChange == api.OK || len(x.changed) == 0) &&
		(x.eLeader == api.OK || x.leader == 0) &&
		(x.eOrder == api.OK || len(x.order) == 0) &&
		(x.eRank == api.OK || x.rank == 0)
}

func (x answer) same(y answer) bool {
	return x.errors() == y.errors() && x.point == y.point && x.leader == y.leader && x.rank == y.rank &&
		slices.Equal(x.order, y.order) && slices.Equal(x.put, y.put) && slices.Equal(x.taken, y.taken) && slices.Equal(x.changed, y.changed)
}

// somePoints are points to ask for: not valid ones, new ones, and those that are there, as they are and changed.
func somePoints(f api.Field) []api.Point {
	list := append(badPoints(), pt(0, 0, 0), pt(api.MaxID, coord, -coord), pt(1, 1, 1), pt(30000, 7, 7))
	for i, p := range f.Points {
		if i < 3 || i > len(f.Points)-3 {
			list = append(list, p, pt(p.ID, 3, -4), pt(p.ID, most, 0))
		}
	}
	return list
}

// R1, R6 and R7: whatever the arguments are, nothing panics, the error is the first one that applies, and there is nothing else.
func TestWhateverComes(t *testing.T) {
	seen := map[api.Errno]int{}
	at := append(badTimes(), frac(0, 1), frac(1, 2), frac(most, 1), frac(-1, most))
	for _, f := range append(fields(), badFields()...) {
		for i, p := range somePoints(f) {
			for j, now := range at {
				if (i+j)%3 != 0 {
					continue
				}
				x, want := ask(f, p, now), wanted(f, p, now)
				if x.errors() != want || !x.clean() {
					t.Fatal(f, p, now, x, want)
				}
				for _, e := range want {
					seen[e]++
				}
			}
		}
	}
	for _, e := range []api.Errno{api.OK, api.ErrMany, api.ErrNone, api.ErrBad, api.ErrTwice, api.ErrFull, api.ErrOrder, api.ErrEmpty} {
		if seen[e] < 20 {
			t.Error(e, "seen only", seen[e])
		}
	}
}

// R2: nothing is kept from call to call.
func TestNothingIsKept(t *testing.T) {
	all := append(fields(), badFields()...)
	at := append(badTimes(), times()...)
	asked := func(i int) answer {
		f := all[i%len(all)]
		list := somePoints(f)
		return ask(f, list[i*7%len(list)], at[i*5%len(at)])
	}
	before := make([]answer, 1000)
	for i := range before {
		before[i] = asked(i)
	}
	for i := len(before) - 1; i >= 0; i-- {
		if x := asked(i); !x.same(before[i]) {
			t.Fatal(i, x, before[i])
		}
	}
}

// fenced is a field with the same points, behind and before others in the same memory, and that memory.
func fenced(f api.Field) (api.Field, []api.Point) {
	const fence = 70
	memory := slices.Repeat([]api.Point{pt(-7, 77, 777)}, fence+len(f.Points)+fence)
	copy(memory[fence:], f.Points)
	return api.Field{Points: memory[fence : fence+len(f.Points)]}, memory
}

// R2: arguments are left as they were, also the memory behind a slice, and what comes behind it changes no result.
func TestArgumentsAreLeft(t *testing.T) {
	for _, f := range append(fields(), badFields()...) {
		g, memory := fenced(f)
		before := slices.Clone(memory)
		for i, p := range somePoints(f) {
			for _, now := range []api.Ratio{frac(0, 0), frac(0, 1), times()[i%len(times())]} {
				x, y := ask(g, p, now), ask(f, p, now)
				if !slices.Equal(memory, before) {
					t.Fatal("changed", f, p, now)
				}
				if !x.same(y) {
					t.Fatal("not the same", f, p, now, x, y)
				}
			}
		}
	}
}

// spoil writes over all of a slice, up to its capacity.
func spoil[T any](list []T, with T) {
	list = list[:cap(list)]
	for i := range list {
		list[i] = with
	}
}

// R2: results share no memory with arguments, nor with each other.
func TestResultsAreNewMemory(t *testing.T) {
	for _, f := range fields() {
		for i, p := range somePoints(f) {
			now := times()[i%len(times())]
			g, memory := fenced(f)
			before := slices.Clone(memory)
			kept := ask(f, p, now)
			x, y := ask(g, p, now), ask(g, p, now)
			spoil(x.order, -9)
			for _, points := range [][]api.Point{x.put, x.taken, x.changed} {
				spoil(points, pt(-9, 9, 99))
			}
			if !slices.Equal(memory, before) {
				t.Fatal("a result is an argument", f, p, now)
			}
			spoil(memory, pt(-8, 8, 88))
			if !y.same(kept) {
				t.Fatal("a result shares memory", f, p, now, y, kept)
			}
		}
	}
}

// R3: a field without points is the same one, nil or not.
func TestNilAndEmpty(t *testing.T) {
	for _, p := range somePoints(New()) {
		for _, now := range append(badTimes(), times()...) {
			x, y, z := ask(api.Field{}, p, now), ask(of([]api.Point{}...), p, now), ask(api.Field{Points: make([]api.Point, 0, 9)}, p, now)
			if !x.same(y) || !x.same(z) {
				t.Fatal(p, now, x, y, z)
			}
		}
	}
}

// The examples of the chapter, and the third one of the whole, with a field that is put together.
func TestExamples(t *testing.T) {
	f := New()
	for _, p := range []api.Point{pt(5, 0, 0), pt(1, 0, 2), pt(2, 6, -1)} {
		g, e := Put(f, p)
		if e != api.OK {
			t.Fatal(p, e)
		}
		f = g
	}
	if !same(f, example()) {
		t.Fatal(f)
	}
	wantOrder(t, f, frac(0, 1), []int{2, 1, 5})
	wantOrder(t, f, frac(2, 1), []int{1, 2, 5})
	wantOrder(t, f, frac(7, 1), []int{1, 5, 2})
	if k, e := Rank(f, 5, frac(7, 1)); k != 1 || e != api.OK {
		t.Error(k, e)
	}
}
