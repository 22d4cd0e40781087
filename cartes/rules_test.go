package cartes_test

import (
	"slices"
	"testing"

	"peloton/api"
	"peloton/cartes"
)

// answer is all that the functions return for some arguments.
type answer struct {
	grown, low, high, merged api.Tree
	ids                      []int
	depth                    int
	right, same              bool
	errors                   [8]api.Errno
}

func ask(s stage) answer {
	var y answer
	y.grown, y.errors[0] = cartes.Of(s.f, s.at)
	y.errors[1] = cartes.Check(s.x)
	y.ids, y.errors[2] = cartes.IDs(s.x)
	y.right, y.errors[3] = cartes.Right(s.x, s.f, s.at)
	y.depth, y.errors[4] = cartes.Depth(s.x, s.id)
	y.low, y.high, y.errors[5] = cartes.Split(s.x, s.id)
	y.merged, y.errors[6] = cartes.Merge(s.x, s.y, s.f, s.at)
	y.same, y.errors[7] = cartes.Same(s.x, s.y)
	return y
}

// wanted is what the functions should return, by the definitions: the error that is named first, and nothing else with it.
func wanted(s stage) answer {
	var y answer
	y.grown, y.errors[0] = ofField(s.f, s.at)
	y.errors[1] = treeError(s.x)
	y.ids, y.errors[2] = idsFrom(s.x)
	y.right, y.errors[3] = whetherRight(s.x, s.f, s.at)
	y.depth, y.errors[4] = depthOf(s.x, s.id)
	y.low, y.high, y.errors[5] = halves(s.x, s.id)
	y.merged, y.errors[6] = oneOf(s.x, s.y, s.f, s.at)
	y.same, y.errors[7] = whetherSame(s.x, s.y)
	return y
}

// trees are those of the answer.
func (y *answer) trees() []*api.Tree {
	return []*api.Tree{&y.grown, &y.low, &y.high, &y.merged}
}

// kept is a copy, as otherwise a result that is written over later would look right.
func (y answer) kept() answer {
	for _, x := range y.trees() {
		*x = clone(*x)
	}
	y.ids = slices.Clone(y.ids)
	return y
}

func (y answer) equals(z answer) bool {
	for i, x := range y.trees() {
		if !same(*x, *z.trees()[i]) {
			return false
		}
	}
	return slices.Equal(y.ids, z.ids) && y.depth == z.depth && y.right == z.right && y.same == z.same && y.errors == z.errors
}

// variants are the same stage and some others, with one argument or two that are not valid, or that do not belong to the others.
func variants(s stage) []stage {
	list := []stage{
		s, {s.y, s.x, s.f, s.at, s.id}, {s.x, s.x, s.f, s.at, 3}, {s.x, s.y, s.f, frac(2, 4), s.id}, {s.x, s.y, points(pt(-1, 0, 0)), frac(1, 0), -1}, {s.x, bare(), points(pt(2, 0, 0), pt(1, 0, 0)), s.at, most},
		{s.x, s.y, api.Field{Points: make([]api.Point, 65)}, s.at, least}, {s.x, of(3), s.f, s.at, top}, {s.x, falling(65, 0), s.f, whole(6), 0}, {s.x, mirror(falling(9, 0)), s.f, s.at, s.id}, {s.x, s.y, level(64), whole(1), 31}, {mirror(s.x), s.x, s.f, s.at, s.id},
	}
	if n := len(s.f.Points); n > 0 {
		list = append(list, stage{s.x, s.y, without(s.f, s.f.Points[n/2].ID), s.at, s.f.Points[n/2].ID}, stage{s.x, s.y, s.f, whole(most), s.f.Points[n-1].ID})
	}
	return list
}

// badStages have trees that are not valid, in the first place, in the second one, or in both.
func badStages() []stage {
	var list []stage
	good, bad := goodTrees(), fewBadTrees()
	for i, x := range bad {
		f, at := fields()[i%12], times()[i%27]
		list = append(list, stage{x, good[i%len(good)], f, at, i % 70}, stage{good[i%len(good)], x, f, at, i % 70}, stage{x, bad[(i*7)%len(bad)], f, at, i % 70})
	}
	return list
}

// forAll does something with all stages, and with the variants of them.
func forAll(do func(s stage)) {
	for i, s := range slices.Concat(goodStages(), badStages()) {
		for k, v := range variants(s) {
			if k == 0 || (i+k)%4 == 0 {
				do(v)
			}
		}
	}
}

// R1, R6 and R7: whatever the arguments are, nothing panics, the error is the first one that applies, and there is nothing else.
func TestWhateverComes(t *testing.T) {
	seen := map[api.Errno]int{}
	forAll(func(s stage) {
		y, want := ask(s), wanted(s)
		if !y.equals(want) {
			t.Fatal(s, y, want)
		}
		for _, e := range y.errors {
			seen[e]++
		}
	})
	for _, e := range []api.Errno{api.OK, api.ErrMany, api.ErrNone, api.ErrBad, api.ErrOrder} {
		if seen[e] < 100 {
			t.Error(e, "seen only", seen[e])
		}
	}
}

// R1 and R7: the same for trees by chance.
func TestWhateverComesByChance(t *testing.T) {
	m := mixer(118)
	good, bad := 0, 0
	for i := range 500 {
		s := m.stage(1 + i%9)
		if m.below(3) > 0 {
			s.x = m.spoiled(1 + i%9)
		}
		if m.below(3) == 0 {
			s.y = m.spoiled(1 + i%9)
		}
		for _, v := range variants(s) {
			y, want := ask(v), wanted(v)
			if !y.equals(want) {
				t.Fatal(v, y, want)
			}
			if y.errors[1] == api.OK {
				good++
			} else {
				bad++
			}
		}
	}
	enough(t, good)
	enough(t, bad)
}

// R1 and R7: trees in which Root and sides are anything at all end in an error, also where many nodes go round and round.
func TestRoundAndRound(t *testing.T) {
	for n := 1; n <= 64; n++ {
		for step := range n {
			ring, both, all := of(0), of(0), of(0)
			for i := range n {
				next := (i + step) % n
				ring.Nodes = append(ring.Nodes, nd(i, -1, next))
				both.Nodes = append(both.Nodes, nd(i, next, next))
				all.Nodes = append(all.Nodes, nd(i, (i+1)%n, next))
			}
			for _, x := range []api.Tree{ring, both, all} {
				wantCheck(t, x, api.ErrBad)
				s := stage{x, x, moving(), whole(1), n / 2}
				if y := ask(s); !y.equals(wanted(s)) {
					t.Fatal(x, y)
				}
			}
		}
	}
}

// R2: nothing is kept from call to call.
func TestNothingIsKept(t *testing.T) {
	list := slices.Concat(goodStages(), badStages())
	asked := func(i int) answer {
		all := variants(list[i*7%len(list)])
		return ask(all[i%len(all)]).kept()
	}
	var before []answer
	for i := range 3000 {
		before = append(before, asked(i))
	}
	for i := len(before) - 1; i >= 0; i-- {
		if y := asked(i); !y.equals(before[i]) {
			t.Fatal(i, y, before[i])
		}
	}
}

// fenced is a copy of a slice behind and before other values in the same memory, and that memory.
func fenced[T any](list []T, with T) ([]T, []T) {
	const fence = 20
	memory := slices.Repeat([]T{with}, fence+len(list)+fence)
	copy(memory[fence:], list)
	return memory[fence : fence+len(list)], memory
}

// fences are the memory of all arguments.
type fences struct {
	x, y   []api.Node
	points []api.Point
}

func (m fences) kept() fences {
	return fences{slices.Clone(m.x), slices.Clone(m.y), slices.Clone(m.points)}
}

func (m fences) equals(o fences) bool {
	return slices.Equal(m.x, o.x) && slices.Equal(m.y, o.y) && slices.Equal(m.points, o.points)
}

// inFences are the same arguments in memory of their own, and that memory.
func inFences(s stage) (stage, fences) {
	var m fences
	s.x.Nodes, m.x = fenced(s.x.Nodes, nd(77, 0, 1))
	s.y.Nodes, m.y = fenced(s.y.Nodes, nd(78, 1, 0))
	s.f.Points, m.points = fenced(s.f.Points, pt(70, 6, 6))
	return s, m
}

// R1 and R2: arguments are left as they were, with an error or without one, also the memory behind a slice, and what comes behind it changes no result.
func TestArgumentsAreLeft(t *testing.T) {
	forAll(func(s stage) {
		want := wanted(s)
		own, memory := inFences(s)
		before := memory.kept()
		y := ask(own)
		if !memory.equals(before) {
			t.Fatal("changed", s)
		}
		if !y.equals(want) {
			t.Fatal("not the same", s, y, want)
		}
	})
}

// fill writes over all of a slice, up to its capacity.
func fill[T any](list []T, with T) {
	list = list[:cap(list)]
	for i := range list {
		list[i] = with
	}
}

// R2: results share no memory with arguments, nor with results of other calls.
func TestResultsAreNewMemory(t *testing.T) {
	forAll(func(s stage) {
		kept := ask(s).kept()
		own, memory := inFences(s)
		before := memory.kept()
		first, second := ask(own), ask(own)
		for _, x := range first.trees() {
			fill(x.Nodes, nd(-9, -9, -9))
		}
		fill(first.ids, -9)
		if !memory.equals(before) {
			t.Fatal("a result is an argument", s)
		}
		if !second.equals(kept) {
			t.Fatal("two results share memory", s, second, kept)
		}
		fill(memory.x, nd(-8, -8, -8))
		fill(memory.y, nd(-8, -8, -8))
		fill(memory.points, pt(-8, -8, -8))
		if !second.equals(kept) {
			t.Fatal("a result shares memory with an argument", s, second, kept)
		}
	})
}

// R2: no two trees of the results of a call share memory, up to their capacity.
func TestTreesAreApart(t *testing.T) {
	forAll(func(s stage) {
		y := ask(s)
		kept := y.kept()
		for i, x := range y.trees() {
			fill(x.Nodes, nd(-9, -9, -9))
			for k, other := range y.trees() {
				if i != k && !same(*other, *kept.trees()[k]) {
					t.Fatal("two trees share memory", s, i, k)
				}
			}
			copy(x.Nodes, kept.trees()[i].Nodes)
		}
	})
}

// R2: a tree goes on as it was, whatever is made from it; and merged with one without nodes it is another one in new memory.
func TestMadeFromTheSame(t *testing.T) {
	m := mixer(119)
	for range 400 {
		f := m.field(1 + m.below(20))
		at := m.time(f)
		base := treeOf(t, f, at)
		before := clone(base)
		for _, id := range idsOf(f) {
			low, high := split(t, base, id)
			whole := merge(t, low, high, f, at)
			alone, after := merge(t, base, bare(), f, at), merge(t, bare(), base, f, at)
			fill(low.Nodes, leaf(-9))
			fill(high.Nodes, leaf(-9))
			if !same(whole, before) || !same(alone, before) || !same(after, before) || !same(base, before) {
				t.Fatal(f, at, id, whole, alone, after, base)
			}
			fill(whole.Nodes, leaf(-9))
			fill(alone.Nodes, leaf(-9))
			if !same(after, before) || !same(base, before) {
				t.Fatal(f, at, id, after, base)
			}
			fill(after.Nodes, leaf(-9))
			if !same(base, before) {
				t.Fatal(f, at, id, base)
			}
		}
		list, _ := cartes.IDs(base)
		fill(list, -9)
		if !same(base, before) {
			t.Fatal(f, at, base)
		}
	}
}

// R3: a slice without elements is the same one, nil or not.
func TestNilAndEmpty(t *testing.T) {
	for _, none := range [][]api.Node{nil, {}, make([]api.Node, 0, 9), early().Nodes[:0]} {
		for _, way := range [][]api.Point{nil, {}, make([]api.Point, 0, 9), moving().Points[:0]} {
			for _, x := range []api.Tree{bare(), {}, of(1), of(0, leaf(1)), early()} {
				for _, y := range []api.Tree{bare(), {}, of(-2), of(0, leaf(5))} {
					for _, s := range variants(stage{x, y, api.Field{}, whole(1), 0}) {
						want := wanted(s)
						for _, z := range []*api.Tree{&s.x, &s.y} {
							if len(z.Nodes) == 0 {
								z.Nodes = none
							}
						}
						if len(s.f.Points) == 0 {
							s.f.Points = way
						}
						if got := ask(s); !got.equals(want) {
							t.Fatal(s, got, want)
						}
					}
				}
			}
		}
	}
}
