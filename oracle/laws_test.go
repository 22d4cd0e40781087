package oracle_test

import (
	"slices"
	"testing"

	"peloton/api"
	"peloton/meet"
	"peloton/oracle"
)

// shuffled are points in mixed order.
func (m *mixer) shuffled(f api.Field) []api.Point {
	list := slices.Clone(f.Points)
	for i := range list {
		k := m.below(i + 1)
		list[i], list[k] = list[k], list[i]
	}
	return list
}

// built is the model of some points at a time, made by New and by puts in mixed order.
func (m *mixer) built(t *testing.T, x api.Model) api.Model {
	t.Helper()
	r, e := oracle.New(x.Now)
	if e != api.OK {
		t.Fatal(x, e)
	}
	for _, p := range m.shuffled(x.Field) {
		r, _ = done(t, r, put(p))
	}
	return r
}

// roundabout is the model of some points at a time, made by asks of all kinds, of which some have errors.
func (m *mixer) roundabout(t *testing.T, x api.Model) api.Model {
	t.Helper()
	r, e := oracle.New(whole(-far))
	if e != api.OK {
		t.Fatal(e)
	}
	for _, p := range m.shuffled(x.Field) {
		r, _ = done(t, r, put(m.point(p.ID)))
	}
	for _, a := range m.asks(r, 9) {
		if a.Kind != api.AskMove {
			r, _, _ = oracle.Do(r, a)
		}
	}
	for _, p := range slices.Clone(r.Field.Points) {
		if !has(x.Field, p.ID) {
			r, _ = done(t, r, take(p.ID))
		}
	}
	for _, p := range m.shuffled(x.Field) {
		a := change(p)
		if !has(r.Field, p.ID) {
			a = put(p)
		}
		r, _ = done(t, r, a)
	}
	if x.Now != whole(-far) {
		r, _ = done(t, r, move(x.Now))
	}
	return r
}

// P12.4: points that are put in in another order make the same model, and models that are the same go on alike, whatever asks led to them.
func TestWhateverLedToIt(t *testing.T) {
	m := mixer(20)
	seen := 0
	for i := range 400 {
		x := m.model(i % 12)
		if i%100 == 99 {
			x = m.model(64)
		}
		l := m.asks(x, 20)
		next, replies := ran(t, x, l)
		for _, r := range []api.Model{m.built(t, x), m.built(t, x), m.roundabout(t, x)} {
			if !sameModel(r, x) {
				t.Fatal(x, r)
			}
			wantRun(t, r, l, next, replies)
			seen += len(replies)
		}
	}
	enough(t, seen)
}

// P12.4: moving in two steps gives the meetings of moving in one, and the same model; they are those of layer 4.
func TestMoveInTwoSteps(t *testing.T) {
	m := mixer(21)
	seen := 0
	for i := range 3000 {
		x := m.model(i % 12)
		if i%300 == 299 {
			x = m.model(64)
		}
		steps := []api.Ratio{m.time(x.Field), m.time(x.Field)}
		slices.SortFunc(steps, func(a, b api.Ratio) int { return exact(a).Cmp(exact(b)) })
		if steps[0] == steps[1] || exact(steps[0]).Cmp(exact(x.Now)) <= 0 {
			continue
		}
		half, first := done(t, x, move(steps[0]))
		two, second := done(t, half, move(steps[1]))
		one, all := done(t, x, move(steps[1]))
		if !sameModel(one, two) || !slices.Equal(slices.Concat(first.Meetings, second.Meetings), all.Meetings) {
			t.Fatal(x, steps, first, second, all)
		}
		if list, e := meet.All(x.Field, x.Now, steps[1]); e != api.OK || !slices.Equal(list, all.Meetings) {
			t.Fatal(x, steps, list, e)
		}
		if len(first.Meetings) > 0 && len(second.Meetings) > 0 {
			seen++
		}
	}
	if seen < 200 {
		t.Error("seen only", seen)
	}
}

// P12.4: what has an error changes nothing: without such asks the model and all other replies are the same.
func TestErrorsChangeNothing(t *testing.T) {
	m := mixer(22)
	seen := 0
	for i := range 300 {
		x := m.model(i % 9)
		l := m.asks(x, 40)
		next, replies := ran(t, x, l)
		var good []api.Ask
		var answers []api.Reply
		for k, r := range replies {
			if r.Err == api.OK {
				good, answers = append(good, l[k]), append(answers, r)
				continue
			}
			if !sameReply(r, fails(r.Err)) {
				t.Fatal(x, l, r)
			}
			seen++
		}
		wantRun(t, x, good, next, answers)
	}
	enough(t, seen)
}

// P12.4: a run in two parts is a run, wherever it is cut, and so is doing one ask after the other.
func TestRunInParts(t *testing.T) {
	m := mixer(23)
	for i := range 200 {
		x := m.model(i % 9)
		l := m.asks(x, m.pick(1, 5, 30, 120))
		next, replies := ran(t, x, l)
		for cut := 0; cut <= len(l); cut += 1 + len(l)/9 {
			half, first := ran(t, x, l[:cut])
			r, second := ran(t, half, l[cut:])
			if !sameModel(r, next) || !sameReplies(slices.Concat(first, second), replies) {
				t.Fatal(x, l, cut, r, next)
			}
		}
		one := x
		for k, a := range l {
			n, r, e := oracle.Do(one, a)
			if e != api.OK || !sameReply(r, replies[k]) {
				t.Fatal(x, l, k, r, e)
			}
			one = n
		}
		if !sameModel(one, next) {
			t.Fatal(x, l, one, next)
		}
	}
}

// P12.2 and P12.4: questions leave the model as it is, and AskClose is Closest.
func TestQuestions(t *testing.T) {
	m := mixer(24)
	for i := range 1500 {
		x := m.model(i % 12)
		wantReply(t, x, askLead(), leaderReply(x))
		i, j, d, e := oracle.Closest(x.Field, x.Now)
		wantReply(t, x, askClose(), api.Reply{Err: e, ID: i, Other: j, Value: d})
	}
}

// P12.1 and P12.4: all replies of a run are the same as those of another one, by Same, and those of other asks are not.
func TestRepliesAreTheSame(t *testing.T) {
	m := mixer(25)
	alike, apart := 0, 0
	for i := range 200 {
		x := m.model(2 + i%9)
		l := m.asks(x, 30)
		_, one := ran(t, x, l)
		_, two := ran(t, x, l)
		for k, a := range one {
			for j, b := range two {
				want := sameReply(a, b)
				if oracle.Same(a, b) != want || k == j && !want {
					t.Fatal(a, b)
				}
				if want {
					alike++
				} else {
					apart++
				}
			}
		}
	}
	enough(t, alike)
	enough(t, apart)
}
