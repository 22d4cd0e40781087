package bracket_test

import (
	"slices"
	"testing"

	"peloton/api"
	"peloton/bracket"
)

// question is what is asked of a bracket, and for what one is built.
type question struct {
	f         api.Field
	at        api.Ratio
	places    []int
	place, id int
}

// answer is all that the functions return for some arguments.
type answer struct {
	built, set    api.Bracket
	winner        int
	changed, path []int
	right         bool
	errors        [6]api.Errno
}

func ask(b api.Bracket, q question) answer {
	var y answer
	y.built, y.errors[0] = bracket.Build(q.f, q.at, q.places)
	y.errors[1] = bracket.Check(b)
	y.winner, y.errors[2] = bracket.Winner(b)
	y.set, y.changed, y.errors[3] = bracket.Set(b, q.f, q.at, q.place, q.id)
	y.right, y.errors[4] = bracket.Right(b, q.f, q.at)
	y.path, y.errors[5] = bracket.Path(b, q.place)
	return y
}

// allBad is the answer for a bracket that is not valid.
func allBad(q question) answer {
	var y answer
	y.built, y.errors[0] = built(q.f, q.at, q.places)
	for i := range y.errors[1:] {
		y.errors[1+i] = api.ErrBad
	}
	return y
}

// wanted is what the functions should return, by the definitions: the error that is named first, and nothing else with it.
func wanted(b api.Bracket, q question) answer {
	y := allBad(q)
	if !isValid(b) {
		return y
	}
	y.errors[1] = api.OK
	y.winner, y.errors[2] = root(b)
	y.set, y.changed, y.errors[3] = afterSetting(b, q.f, q.at, q.place, q.id)
	y.right, y.errors[4] = whetherRight(b, q.f, q.at)
	y.path, y.errors[5] = wayUp(b, q.place)
	return y
}

// lists are the slices of the answer.
func (y *answer) lists() []*[]int {
	return []*[]int{&y.built.Places, &y.built.Wins, &y.set.Places, &y.set.Wins, &y.changed, &y.path}
}

// kept is a copy, as otherwise a result that is written over later would look right.
func (y answer) kept() answer {
	for _, list := range y.lists() {
		*list = slices.Clone(*list)
	}
	return y
}

func (y answer) same(z answer) bool {
	for i, list := range y.lists() {
		if !slices.Equal(*list, *z.lists()[i]) {
			return false
		}
	}
	return y.winner == z.winner && y.right == z.right && y.errors == z.errors
}

// questions are a few about a bracket, with fields, times, places and IDs that are right for it, and others.
func questions(s stage) []question {
	n := len(s.b.Places)
	list := []question{
		{s.f, s.at, s.b.Places, 0, -1}, {s.f, s.at, ids(1, 2, -1, 5), n - 1, -1}, {s.f, s.at, s.b.Places, n / 2, 1}, {s.f, frac(2, 4), ids(-1), 0, 7}, {moving(), whole(2), ids(5, 1, 5), 1, 2},
		{points(pt(-1, 0, 0)), s.at, nil, n, 0}, {points(pt(2, 0, 0), pt(1, 0, 0)), whole(1), ids(1, 2), -1, 1}, {api.Field{Points: make([]api.Point, 65)}, s.at, upTo(64), 0, 5}, {api.Field{}, whole(6), empties(64), most, least},
		{level(64), whole(1), upTo(64), 0, 63}, {level(64), whole(0), upTo(65), least, 3}, {s.f, whole(most), slices.Concat(s.b.Places, ids(-1, -2)), n - 1, top}, {s.f, s.at, nil, n + 1, -1},
	}
	if m := len(s.f.Points); m > 0 {
		first, last := s.f.Points[0].ID, s.f.Points[m-1].ID
		list = append(list, question{s.f, s.at, ids(last, -1, first), n / 3, first}, question{s.f, s.at, ids(first, first), n - 1, last}, question{without(s.f, first), s.at, s.b.Places, 0, last}, question{without(s.f, last), s.at, s.b.Places, n - 1, -1})
	}
	for i := 0; i < n; i += 1 + n/3 {
		list = append(list, question{s.f, whole(int64(i)), s.b.Places, i, s.b.Places[i]}, question{s.f, s.at, s.b.Places, i, s.b.Places[n-1-i]})
	}
	return list
}

// allStages have brackets that are valid, and others, for which all else is as it comes.
func allStages() []stage {
	list := goodStages()
	for i, b := range allBadBrackets() {
		f := []api.Field{moving(), standing(64), {}}[i%3]
		list = append(list, stage{b, f, whole(int64(i % 7))})
	}
	return list
}

// forAll asks all questions of brackets that are valid, and some of the others, to which the answer does not depend on the question, but for what is built.
func forAll(do func(b api.Bracket, q question)) {
	good := len(goodStages())
	for i, s := range allStages() {
		for k, q := range questions(s) {
			if i < good || (i+k)%13 == 0 {
				do(s.b, q)
			}
		}
	}
}

// R1, R6 and R7: whatever the arguments are, nothing panics, the error is the first one that applies, and there is nothing else.
func TestWhateverComes(t *testing.T) {
	seen := map[api.Errno]int{}
	forAll(func(b api.Bracket, q question) {
		y, want := ask(b, q), wanted(b, q)
		if !y.same(want) {
			t.Fatal(b, q, y, want)
		}
		for _, e := range y.errors {
			seen[e]++
		}
	})
	for _, e := range []api.Errno{api.OK, api.ErrArg, api.ErrMany, api.ErrNone, api.ErrBad, api.ErrTwice, api.ErrOrder, api.ErrEmpty} {
		if seen[e] < 100 {
			t.Error(e, "seen only", seen[e])
		}
	}
}

// R1 and R7: the same for brackets by chance.
func TestWhateverComesByChance(t *testing.T) {
	m := mixer(115)
	good, bad := 0, 0
	for i := range 3000 {
		s := m.spoiled(1 + i%9)
		for _, q := range questions(s) {
			y, want := ask(s.b, q), wanted(s.b, q)
			if !y.same(want) {
				t.Fatal(s, q, y, want)
			}
			if y.errors[1] == api.ErrBad {
				bad++
			} else {
				good++
			}
		}
	}
	enough(t, good)
	enough(t, bad)
}

// R1: ErrBad of the bracket comes first, before all errors of other arguments.
func TestBadComesFirst(t *testing.T) {
	var brackets []api.Bracket
	for _, list := range badBrackets() {
		brackets = append(brackets, list[:3]...)
	}
	all := append(fields(), allBadFields()...)
	for _, b := range brackets {
		for i, f := range all {
			for _, at := range append(badTimes(), whole(1), whole(-most), whole(most)) {
				q := question{f, at, ids(1, i), i%7 - 2, i%9 - 2}
				if y := ask(b, q); !y.same(allBad(q)) {
					t.Fatal(b, q, y)
				}
			}
		}
	}
}

// R2: nothing is kept from call to call.
func TestNothingIsKept(t *testing.T) {
	list := allStages()
	asked := func(i int) answer {
		s := list[i*7%len(list)]
		all := questions(s)
		return ask(s.b, all[i%len(all)]).kept()
	}
	var before []answer
	for i := range 3000 {
		before = append(before, asked(i))
	}
	for i := len(before) - 1; i >= 0; i-- {
		if y := asked(i); !y.same(before[i]) {
			t.Fatal(i, y, before[i])
		}
	}
}

// fenced is a copy of a slice behind and before other values in the same memory, and that memory.
func fenced[T any](list []T, with T) ([]T, []T) {
	const fence = 20
	memory := slices.Repeat([]T{with}, fence+len(list)+fence)
	copy(memory[fence:], list)
	return memory[fence : fence+len(list)], memory
}

// fences are the memory of all arguments.
type fences struct {
	places, wins, build []int
	points              []api.Point
}

func (m fences) kept() fences {
	return fences{slices.Clone(m.places), slices.Clone(m.wins), slices.Clone(m.build), slices.Clone(m.points)}
}

func (m fences) same(o fences) bool {
	return slices.Equal(m.places, o.places) && slices.Equal(m.wins, o.wins) && slices.Equal(m.build, o.build) && slices.Equal(m.points, o.points)
}

// inFences are the same arguments in memory of their own, and that memory.
func inFences(b api.Bracket, q question) (api.Bracket, question, fences) {
	var m fences
	b.Places, m.places = fenced(b.Places, 77)
	b.Wins, m.wins = fenced(b.Wins, 78)
	q.places, m.build = fenced(q.places, 79)
	q.f.Points, m.points = fenced(q.f.Points, pt(70, 6, 6))
	return b, q, m
}

// R1 and R2: arguments are left as they were, with an error or without one, also the memory behind a slice, and what comes behind it changes no result.
func TestArgumentsAreLeft(t *testing.T) {
	forAll(func(b api.Bracket, q question) {
		want := wanted(b, q)
		own, ownQ, memory := inFences(b, q)
		before := memory.kept()
		y := ask(own, ownQ)
		if !memory.same(before) {
			t.Fatal("changed", b, q)
		}
		if !y.same(want) {
			t.Fatal("not the same", b, q, y)
		}
	})
}

// fill writes over all of a slice, up to its capacity.
func fill[T any](list []T, with T) {
	list = list[:cap(list)]
	for i := range list {
		list[i] = with
	}
}

// R2: results share no memory with arguments, nor with results of other calls.
func TestResultsAreNewMemory(t *testing.T) {
	forAll(func(b api.Bracket, q question) {
		kept := ask(b, q).kept()
		own, ownQ, memory := inFences(b, q)
		before := memory.kept()
		first, second := ask(own, ownQ), ask(own, ownQ)
		for _, list := range first.lists() {
			fill(*list, -9)
		}
		if !memory.same(before) {
			t.Fatal("a result is an argument", b, q)
		}
		if !second.same(kept) {
			t.Fatal("two results share memory", b, q, second, kept)
		}
		fill(memory.places, -8)
		fill(memory.wins, -8)
		fill(memory.build, -8)
		fill(memory.points, pt(-8, -8, -8))
		if !second.same(kept) {
			t.Fatal("a result shares memory with an argument", b, q, second, kept)
		}
	})
}

// R2: no two slices of the results of a call share memory, up to their capacity.
func TestSlicesAreApart(t *testing.T) {
	forAll(func(b api.Bracket, q question) {
		y := ask(b, q)
		kept := y.kept()
		for i, list := range y.lists() {
			fill(*list, -9)
			for k, other := range y.lists() {
				if i != k && !slices.Equal(*other, *kept.lists()[k]) {
					t.Fatal("two slices share memory", b, q, i, k)
				}
			}
			copy(*list, *kept.lists()[i])
		}
	})
}

// R2: a bracket that was made goes on as it was, whatever is made from it.
func TestMadeFromTheSame(t *testing.T) {
	m := mixer(116)
	for range 300 {
		f := m.field(2 + m.below(20))
		at := m.time(f)
		base := made(t, f, at, m.places(f, 2+m.below(20), 3))
		before := clone(base)
		for place := range base.Places {
			want, changed, _ := afterSetting(base, f, at, place, -1)
			one, list := set(t, base, f, at, place, -1)
			other, again := set(t, base, f, at, place, base.Places[place])
			fill(other.Places, -9)
			fill(other.Wins, -9)
			fill(again, -9)
			if !same(one, want) || !slices.Equal(list, changed) || !same(base, before) {
				t.Fatal(base, f, at, place, one, list)
			}
		}
	}
}

// R2: the places of a bracket may be those of which another one is built.
func TestBuiltOfItsOwn(t *testing.T) {
	b := example()
	c := made(t, moving(), whole(2), b.Places)
	b.Places[0], b.Wins[0] = 9, 9
	if !same(c, of(ids(1, 2, -1, 5), 1, 1, 5)) {
		t.Error(c)
	}
	c.Places[1] = 7
	if !slices.Equal(b.Places, ids(9, 2, -1, 5)) {
		t.Error(b)
	}
}

// R3: a slice without elements is the same one, nil or not.
func TestNilAndEmpty(t *testing.T) {
	for _, none := range [][]int{nil, {}, make([]int, 0, 9), example().Places[:0]} {
		for _, way := range [][]api.Point{nil, {}, make([]api.Point, 0, 9), moving().Points[:0]} {
			for _, b := range []api.Bracket{{}, of(nil, 3), of(ids(-1)), of(ids(5)), of(ids(1, 2)), example()} {
				for _, q := range questions(stage{of(ids(-1)), api.Field{}, whole(1)}) {
					want := wanted(b, q)
					own := b
					if len(b.Places) == 0 {
						own.Places = none
					}
					if len(b.Wins) == 0 {
						own.Wins = none
					}
					if len(q.f.Points) == 0 {
						q.f.Points = way
					}
					if len(q.places) == 0 {
						q.places = none
					}
					if y := ask(own, q); !y.same(want) {
						t.Fatal(own, q, y, want)
					}
				}
			}
		}
	}
}
