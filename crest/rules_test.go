package crest_test

import (
	"slices"
	"testing"

	"peloton/api"
	"peloton/crest"
	"peloton/field"
	"peloton/ratio"
)

// badPoints are points that are not valid, each one for another reason.
func badPoints() []api.Point {
	return []api.Point{
		pt(-1, 0, 0), pt(api.MaxID+1, 0, 0), pt(least, 0, 0), pt(most, 0, 0),
		pt(4, coord+1, 0), pt(4, -coord-1, 0), pt(4, 0, coord+1), pt(4, 0, -coord-1),
		pt(4, most, 0), pt(4, least, 0), pt(4, 0, most), pt(4, 0, least), pt(-5, least, most),
	}
}

// badTimes are fractions that are not valid, each one for another reason.
func badTimes() []api.Ratio {
	return []api.Ratio{
		frac(0, 0), frac(1, 0), frac(0, 2), frac(0, -1), frac(2, 2), frac(6, 4), frac(-6, 4),
		frac(3, -2), frac(least, 1), frac(least, 3), frac(1, least), frac(least, least), frac(most, most),
	}
}

// badFields are fields that are not valid, with the error of each one: too many points, a point that is not valid, IDs that do not increase, and several of these.
func badFields() map[api.Errno][]api.Field {
	list := map[api.Errno][]api.Field{
		api.ErrMany: {
			inTurn(65),
			many(65, api.MaxID-10, func(i int64) (a, b int64) { return i, -i }),
			{Points: make([]api.Point, 65)},
			{Points: make([]api.Point, 5000)},
			{Points: slices.Repeat(badPoints(), 6)},
		},
		api.ErrBad: {of(pt(5, 0, 0), pt(5, 0, 0), pt(-1, 0, 0)), {Points: slices.Repeat(badPoints(), 4)}},
		api.ErrOrder: {
			of(pt(1, 0, 0), pt(1, 0, 1)), of(pt(2, 0, 0), pt(1, 0, 1)), of(pt(1, 0, 2), pt(2, 6, -1), pt(1, 3, 3)),
			{Points: make([]api.Point, 64)},
		},
	}
	for _, p := range badPoints() {
		list[api.ErrBad] = append(list[api.ErrBad], of(p), of(pt(1, 0, 2), p), of(p, pt(5, 0, 0)), of(pt(5, 0, 0), p, pt(3, 0, 0)))
	}
	return list
}

func wantOfError(t *testing.T, f api.Field, from api.Ratio, want api.Errno) {
	t.Helper()
	if l, e := crest.Of(f, from); len(l) > 0 || e != want {
		t.Fatal("of", f, from, l, e, want)
	}
}

// P5.1 and R1: the error of a field comes first, then that of the time, and then that of a field without points.
func TestOfErrors(t *testing.T) {
	at := slices.Concat(badTimes(), times())
	for e, list := range badFields() {
		for _, f := range list {
			for _, from := range at {
				wantOfError(t, f, from, e)
			}
		}
	}
	for _, from := range badTimes() {
		for _, f := range []api.Field{{}, of([]api.Point{}...), example(), of(pt(1, 2, 3)), inTurn(64)} {
			wantOfError(t, f, from, api.ErrBad)
		}
	}
	for _, from := range times() {
		wantOfError(t, api.Field{}, from, api.ErrEmpty)
		wantOfError(t, field.New(), from, api.ErrEmpty)
	}
}

// P5.1: one point more than there may be is ErrMany, though MaxPoints points have a crest.
func TestOneMore(t *testing.T) {
	if l, e := crest.Of(inTurn(64), frac(0, 1)); len(l) != 64 || e != api.OK {
		t.Error(l, e)
	}
	wantOfError(t, inTurn(65), frac(0, 1), api.ErrMany)
	wantMergeError(t, inTurn(65), row(lead(1, 0, 1)), row(lead(2, 0, 1)), api.ErrMany)
}

// asked are arguments of all functions.
type asked struct {
	f    api.Field
	a, b []api.Lead
	at   api.Ratio
}

// answer is all that the functions return for some arguments.
type answer struct {
	of, merged []api.Lead
	id         int
	errors     [4]api.Errno
}

func ask(x asked) answer {
	var y answer
	y.of, y.errors[0] = crest.Of(x.f, x.at)
	y.merged, y.errors[1] = crest.Merge(x.f, x.a, x.b)
	y.id, y.errors[2] = crest.At(x.a, x.at)
	y.errors[3] = crest.Check(x.a)
	return y
}

// kept is a copy, as otherwise a result that is written over later would look right.
func (y answer) kept() answer {
	y.of, y.merged = slices.Clone(y.of), slices.Clone(y.merged)
	return y
}

func (y answer) same(z answer) bool {
	return slices.Equal(y.of, z.of) && slices.Equal(y.merged, z.merged) && y.id == z.id && y.errors == z.errors
}

// errorsOf are the errors that the functions have for some arguments: the first one that applies.
func errorsOf(x asked) [4]api.Errno {
	bad := field.Check(x.f)
	list := [4]api.Errno{bad, bad, crest.Check(x.a), crest.Check(x.a)}
	if bad == api.OK {
		list[0], list[1] = ratio.Check(x.at), errorOf(x.f, x.a, x.b)
		if list[0] == api.OK && len(x.f.Points) == 0 {
			list[0] = api.ErrEmpty
		}
	}
	if list[2] == api.OK {
		list[2] = ratio.Check(x.at)
		if list[2] == api.OK && earlier(x.at, x.a[0].From) < 0 {
			list[2] = api.ErrPast
		}
	}
	return list
}

// samples are arguments of which any may be valid or not; where a and b are crests of points of the field, they begin at the same time.
func samples() []asked {
	goodFields, badOnes := fields(), []api.Field{{}}
	for _, e := range []api.Errno{api.ErrMany, api.ErrBad, api.ErrOrder} {
		badOnes = append(badOnes, badFields()[e]...)
	}
	crests := slices.Concat(goodCrests(), badCrests())
	at := slices.Concat(times(), badTimes())
	var list []asked
	m := mixer(31)
	for range 3000 {
		x := asked{f: goodFields[m.below(len(goodFields))], at: at[m.below(len(at))]}
		from := frac(m.below(9)-5, 1)
		x.a, x.b = m.crest(x.f, from, 1+int(m.below(9))), m.crest(x.f, from, 1+int(m.below(9)))
		switch m.below(6) {
		case 0:
			x.f = badOnes[m.below(len(badOnes))]
		case 1:
			x.a = crests[m.below(len(crests))]
		case 2:
			x.b = crests[m.below(len(crests))]
		}
		list = append(list, x)
	}
	return list
}

// R1 and R7: whatever the arguments are, nothing panics, the error is the first one that applies, and there is nothing else.
func TestWhateverComes(t *testing.T) {
	fine := 0
	for _, x := range samples() {
		y := ask(x)
		if y.errors != errorsOf(x) {
			t.Fatal(x, y, errorsOf(x))
		}
		if (y.errors[0] == api.OK) != (len(y.of) > 0) || (y.errors[1] == api.OK) != (len(y.merged) > 0) || y.errors[2] != api.OK && y.id != 0 {
			t.Fatal(x, y)
		}
		if y.errors[1] == api.OK {
			fine++
		}
	}
	enough(t, fine)
}

// R2: nothing is kept from call to call.
func TestNothingIsKept(t *testing.T) {
	list := samples()[:1000]
	var before []answer
	for _, x := range list {
		before = append(before, ask(x).kept())
	}
	for i := len(list) - 1; i >= 0; i-- {
		if y := ask(list[i]); !y.same(before[i]) {
			t.Fatal(list[i], y, before[i])
		}
	}
}

// fenced is a copy of a slice behind and before other values in the same memory, and that memory.
func fenced[T any](list []T, with T) ([]T, []T) {
	const fence = 70
	memory := slices.Repeat([]T{with}, fence+len(list)+fence)
	copy(memory[fence:], list)
	return memory[fence : fence+len(list)], memory
}

// memory is where the slices of arguments are.
type memory struct {
	points []api.Point
	a, b   []api.Lead
}

func (m memory) clone() memory {
	return memory{slices.Clone(m.points), slices.Clone(m.a), slices.Clone(m.b)}
}

func (m memory) same(n memory) bool {
	return slices.Equal(m.points, n.points) && slices.Equal(m.a, n.a) && slices.Equal(m.b, n.b)
}

// inFences are the same arguments in memory of their own.
func inFences(x asked) (asked, memory) {
	var m memory
	x.f.Points, m.points = fenced(x.f.Points, pt(-7, 77, 777))
	x.a, m.a = fenced(x.a, lead(-7, 77, 777))
	x.b, m.b = fenced(x.b, lead(-8, 88, 888))
	return x, m
}

// R2: arguments are left as they were, also the memory behind a slice, and what comes behind it changes no result.
func TestArgumentsAreLeft(t *testing.T) {
	for _, x := range samples() {
		fence, m := inFences(x)
		before := m.clone()
		y, z := ask(fence), ask(x)
		if !m.same(before) {
			t.Fatal("changed", x)
		}
		if !y.same(z) {
			t.Fatal("not the same", x, y, z)
		}
	}
}

// spoil writes over all of a slice, up to its capacity.
func spoil[T any](list []T, with T) {
	list = list[:cap(list)]
	for i := range list {
		list[i] = with
	}
}

// R2: results share no memory with arguments, nor with each other.
func TestResultsAreNewMemory(t *testing.T) {
	for _, x := range samples() {
		fence, m := inFences(x)
		before := m.clone()
		kept := ask(x).kept()
		first, second := ask(fence), ask(fence)
		spoil(first.of, lead(-9, 9, -9))
		spoil(first.merged, lead(-9, 9, -9))
		if !m.same(before) {
			t.Fatal("a result is an argument", x)
		}
		if !second.same(kept) || !ask(fence).same(kept) {
			t.Fatal("a result shares memory", x, second, kept)
		}
		spoil(m.points, pt(-8, 8, 88))
		spoil(m.a, lead(-8, 8, 88))
		spoil(m.b, lead(-8, 8, 88))
		if !second.same(kept) {
			t.Fatal("a result shares memory with an argument", x, second, kept)
		}
	}
}

// R2: both crests may be the same one, in the same memory.
func TestMergeWithItself(t *testing.T) {
	forPairs(func(f api.Field, a, _ []api.Lead) {
		l, e := crest.Merge(f, a, a)
		if !slices.Equal(l, a) || e != api.OK {
			t.Fatal(f, a, l, e)
		}
		kept := slices.Clone(a)
		spoil(l, lead(-9, 9, -9))
		if !slices.Equal(a, kept) {
			t.Fatal("a result is an argument", f, kept, a)
		}
	})
}

// R3: a field without points is the same one, nil or not, and so is a crest without leads.
func TestNilAndEmpty(t *testing.T) {
	noPoints := []api.Field{{}, of([]api.Point{}...), {Points: make([]api.Point, 0, 9)}}
	noLeads := [][]api.Lead{nil, {}, make([]api.Lead, 0, 9)}
	for _, at := range slices.Concat(times(), badTimes()) {
		for i, f := range noPoints {
			want := ask(asked{f: api.Field{}, a: steps(2), at: at})
			if y := ask(asked{f: f, a: steps(2), b: noLeads[i], at: at}); !y.same(want) {
				t.Fatal(i, at, y, want)
			}
			want = ask(asked{f: example(), b: steps(2), at: at})
			if y := ask(asked{f: example(), a: noLeads[i], b: steps(2), at: at}); !y.same(want) {
				t.Fatal(i, at, y, want)
			}
		}
	}
}

// The examples of the chapter, and the fifth one of the whole.
func TestExamples(t *testing.T) {
	l, e := crest.Of(example(), frac(-1, 1))
	if !slices.Equal(l, row(lead(2, -1, 1), lead(1, 2, 1))) || e != api.OK {
		t.Error(l, e)
	}
	if id, e := crest.At(l, frac(2, 1)); id != 1 || e != api.OK {
		t.Error(id, e)
	}
	if id, e := crest.At(l, frac(1, 1)); id != 2 || e != api.OK {
		t.Error(id, e)
	}
	if l, e := crest.Of(example(), frac(3, 1)); !slices.Equal(l, row(lead(1, 3, 1))) || e != api.OK {
		t.Error(l, e)
	}
	without, e := field.Take(example(), 1)
	if e != api.OK {
		t.Error(e)
	}
	if l, e := crest.Of(without, frac(-1, 1)); !slices.Equal(l, row(lead(2, -1, 1), lead(5, 6, 1))) || e != api.OK {
		t.Error(l, e)
	}
}
