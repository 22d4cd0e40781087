package oracle_test

import (
	"slices"
	"testing"

	"peloton/api"
	"peloton/oracle"
)

// question is what is asked of a model: a list, of which the first ask is also done alone.
type question struct {
	m api.Model
	l []api.Ask
}

// answer is all that the functions with a model, a field or a time return.
type answer struct {
	made, next, end api.Model
	reply           api.Reply
	replies         []api.Reply
	i, j            int
	d               api.Ratio
	errors          [5]api.Errno
}

func ask(q question) answer {
	var y answer
	y.made, y.errors[0] = oracle.New(q.m.Now)
	y.errors[1] = oracle.Check(q.m)
	y.next, y.reply, y.errors[2] = oracle.Do(q.m, q.l[0])
	y.end, y.replies, y.errors[3] = oracle.Run(q.m, q.l)
	y.i, y.j, y.d, y.errors[4] = oracle.Closest(q.m.Field, q.m.Now)
	return y
}

// wanted is what the functions should return, by the definitions: the error that is named first, and nothing else with it.
func wanted(q question) answer {
	var y answer
	if y.errors[0] = timeError(q.m.Now); y.errors[0] == api.OK {
		y.made = at(q.m.Now, api.Field{})
	}
	y.errors[4] = fieldError(q.m.Field)
	if y.errors[4] == api.OK {
		y.errors[4] = y.errors[0]
	}
	if y.errors[4] != api.OK {
		y.errors[1], y.errors[2], y.errors[3] = api.ErrBad, api.ErrBad, api.ErrBad
		return y
	}
	r := closestReply(q.m.Field, q.m.Now)
	y.i, y.j, y.d, y.errors[4] = r.ID, r.Other, r.Value, r.Err
	y.next, y.reply = after(q.m, q.l[0])
	if len(q.l) > 120 {
		y.errors[3] = api.ErrMany
		return y
	}
	y.end, y.replies = afterAll(q.m, q.l)
	return y
}

func (y answer) same(z answer) bool {
	return sameModel(y.made, z.made) && sameModel(y.next, z.next) && sameModel(y.end, z.end) && sameReply(y.reply, z.reply) && sameReplies(y.replies, z.replies) &&
		y.i == z.i && y.j == z.j && y.d == z.d && y.errors == z.errors
}

// kept is a copy, as otherwise a result that is written over later would look right.
func (y answer) kept() answer {
	y.made, y.next, y.end = copyOf(y.made), copyOf(y.next), copyOf(y.end)
	y.reply, y.replies = copiesOf([]api.Reply{y.reply})[0], copiesOf(y.replies)
	return y
}

// questions are some of models that are valid, and of others, with asks that have errors or not.
func questions() []question {
	var list []question
	m := mixer(30)
	for _, x := range slices.Concat(goodModels(), badModels()) {
		all := append(formed(at(whole(0), moving())), malformed(at(whole(0), moving()))...)
		if isModel(x) {
			all = append(formed(x), malformed(x)...)
		}
		for _, a := range []api.Ask{put(pt(12345, 1, 2)), change(pt(1, 2, 3)), take(2), move(whole(far)), askLead(), askClose()} {
			list = append(list, question{x, []api.Ask{a}}, question{x, []api.Ask{a, askLead(), askClose(), a}})
		}
		for _, n := range []int{1, 2, 3, 20, 120, 121} {
			if n > 20 && len(x.Field.Points) > 20 {
				continue
			}
			var l []api.Ask
			for range n {
				l = append(l, all[m.below(len(all))])
			}
			list = append(list, question{x, l})
		}
	}
	for i := range 300 {
		x := m.model(i % 9)
		list = append(list, question{x, m.asks(x, 1+i%40)})
	}
	return list
}

// R1, R6 and R7: whatever the arguments are, nothing panics, the error is the first one that applies, and there is nothing else.
func TestWhateverComes(t *testing.T) {
	seen := map[api.Errno]int{}
	for _, q := range questions() {
		y, want := ask(q), wanted(q)
		if !y.same(want) {
			t.Fatal(q, y, want)
		}
		for _, e := range y.errors {
			seen[e]++
		}
		for _, r := range y.replies {
			seen[r.Err]++
		}
	}
	for _, e := range []api.Errno{api.OK, api.ErrArg, api.ErrMany, api.ErrNone, api.ErrBad, api.ErrForm, api.ErrTwice, api.ErrFull, api.ErrOrder, api.ErrEmpty, api.ErrPast} {
		if seen[e] < 20 {
			t.Error(e, "seen only", seen[e])
		}
	}
}

// R2: nothing is kept from call to call.
func TestNothingIsKept(t *testing.T) {
	list := questions()
	var before []answer
	for i := range 1000 {
		before = append(before, ask(list[i*7%len(list)]).kept())
	}
	for i := len(before) - 1; i >= 0; i-- {
		if y := ask(list[i*7%len(list)]); !y.same(before[i]) {
			t.Fatal(i, y, before[i])
		}
	}
}

// fenced is a copy of a slice behind and before other values in the same memory, and that memory.
func fenced[T any](list []T, with T) ([]T, []T) {
	const fence = 70
	memory := slices.Repeat([]T{with}, fence+len(list)+fence)
	copy(memory[fence:], list)
	return memory[fence : fence+len(list)], memory
}

// memory has the points and the asks of a question, and others behind and before them.
type memory struct {
	points []api.Point
	asks   []api.Ask
}

func (x memory) clone() memory {
	return memory{slices.Clone(x.points), slices.Clone(x.asks)}
}

func (x memory) same(y memory) bool {
	return slices.Equal(x.points, y.points) && slices.Equal(x.asks, y.asks)
}

func (x memory) spoil() {
	fill(x.points, pt(-8, 8, 88))
	fill(x.asks, put(pt(8, 8, 8)))
}

// inFences is the same question in memory of its own, and that memory.
func inFences(q question) (question, memory) {
	var x memory
	q.m.Field.Points, x.points = fenced(q.m.Field.Points, pt(-7, 77, 777))
	q.l, x.asks = fenced(q.l, take(77))
	return q, x
}

// fill writes over all of a slice, up to its capacity.
func fill[T any](list []T, with T) {
	list = list[:cap(list)]
	for i := range list {
		list[i] = with
	}
}

// spoil writes over all slices of an answer, up to their capacity.
func (y answer) spoil() {
	for _, m := range []api.Model{y.made, y.next, y.end} {
		fill(m.Field.Points, pt(-9, 99, 999))
	}
	for _, r := range append(slices.Clone(y.replies), y.reply) {
		fill(r.Meetings, hit(whole(-9), 9, 9))
	}
	fill(y.replies, leads(-9, whole(9)))
}

// R1 and R2: arguments are left as they were, with an error or without one, also the memory behind a slice, and what comes behind it changes no result.
func TestArgumentsAreLeft(t *testing.T) {
	for _, q := range questions() {
		fence, x := inFences(q)
		before := x.clone()
		if y := ask(fence); !y.same(ask(q)) {
			t.Fatal("not the same", q, y)
		}
		if !x.same(before) {
			t.Fatal("changed", q)
		}
	}
}

// R2: results share no memory with arguments, nor with results of other calls.
func TestResultsAreNewMemory(t *testing.T) {
	for _, q := range questions() {
		fence, x := inFences(q)
		before := x.clone()
		first, second := ask(fence), ask(fence)
		kept := second.kept()
		first.spoil()
		if !x.same(before) {
			t.Fatal("a result is an argument", q)
		}
		if !second.same(kept) {
			t.Fatal("two results share memory", q, second, kept)
		}
		x.spoil()
		if !second.same(kept) {
			t.Fatal("a result shares memory with an argument", q, second, kept)
		}
	}
}

// R2: no two slices of a result share memory, up to their capacity.
func TestSlicesAreApart(t *testing.T) {
	seen := 0
	for _, f := range []api.Field{moving(), level(9), crowd(12)} {
		l := []api.Ask{move(whole(1)), move(whole(2)), askLead(), move(whole(6)), move(whole(7)), move(whole(20)), move(whole(99))}
		_, list := ran(t, at(whole(-9), f), l)
		kept := copiesOf(list)
		for i, r := range list {
			fill(r.Meetings, hit(whole(-9), 9, 9))
			for k, other := range list {
				if k > i && !sameReply(other, kept[k]) {
					t.Fatal("two slices share memory", f, i, k)
				}
			}
			seen += len(r.Meetings)
		}
	}
	if seen < 70 {
		t.Error("seen only", seen)
	}
}

// R2: a model that was made goes on as it was, whatever is made from it.
func TestMadeFromTheSame(t *testing.T) {
	base, _ := ran(t, at(whole(-1), api.Field{}), []api.Ask{put(pt(5, 0, 0)), put(pt(1, 0, 2)), put(pt(9, 4, 4)), put(pt(2, 6, -1)), take(9)})
	kept := copyOf(base)
	one, _ := done(t, base, put(pt(7, 1, 1)))
	other, _ := done(t, base, put(pt(8, 2, 2)))
	changed, _ := done(t, base, change(pt(2, 3, 3)))
	if !sameModel(base, kept) || !sameModel(one, at(whole(-1), with(moving(), pt(7, 1, 1)))) || !sameModel(other, at(whole(-1), with(moving(), pt(8, 2, 2)))) || !sameModel(changed, at(whole(-1), with(moving(), pt(2, 3, 3)))) {
		t.Error(base, one, other, changed)
	}
}

// R2: no two new models share memory.
func TestNewIsNew(t *testing.T) {
	a, _ := oracle.New(whole(1))
	b, _ := oracle.New(whole(1))
	a, _ = done(t, a, put(pt(1, 1, 1)))
	c, _ := oracle.New(whole(1))
	if want := at(whole(1), api.Field{}); len(a.Field.Points) != 1 || !sameModel(b, want) || !sameModel(c, want) {
		t.Error(a, b, c)
	}
}

// R3: a field without points is the same one, nil or not, and so is a list without asks.
func TestNilAndEmpty(t *testing.T) {
	for _, now := range append(asked(), append(noTimes(), notAsked()...)...) {
		for _, list := range [][]api.Point{nil, {}, make([]api.Point, 0, 9), moving().Points[:0]} {
			for _, a := range append(formed(at(now, api.Field{}))[:9], askLead(), askClose(), move(whole(far)), api.Ask{}) {
				q := question{at(now, points(list...)), []api.Ask{a}}
				if y := ask(q); !y.same(wanted(question{at(now, api.Field{}), q.l})) {
					t.Fatal(q, y)
				}
			}
		}
	}
}
