package cartes_test

import (
	"math"
	"slices"
	"testing"

	"peloton/api"
	"peloton/cartes"
)

const (
	most  = math.MaxInt64
	least = math.MinInt64
	top   = api.MaxID
	coord = api.MaxCoord
	// fine is a denominator of times just before and behind others.
	fine = 1<<60 - 1
)

// frac is a fraction as it is written, valid or not.
func frac(num, den int64) api.Ratio {
	return api.Ratio{Num: num, Den: den}
}

// whole is the fraction of a whole number.
func whole(n int64) api.Ratio {
	return frac(n, 1)
}

// pt is a point as it is written, valid or not.
func pt(id int, a, b int64) api.Point {
	return api.Point{ID: id, A: a, B: b}
}

// points is a field of points as they are written, valid or not.
func points(list ...api.Point) api.Field {
	return api.Field{Points: list}
}

func ids(n ...int) []int { return n }

// nd is a node as it is written, valid or not.
func nd(id, left, right int) api.Node {
	return api.Node{ID: id, Left: left, Right: right}
}

// leaf is a node without sides.
func leaf(id int) api.Node {
	return nd(id, -1, -1)
}

// of is a tree as it is written, valid or not.
func of(root int, nodes ...api.Node) api.Tree {
	return api.Tree{Root: root, Nodes: nodes}
}

// bare is the tree without nodes.
func bare() api.Tree {
	return of(-1)
}

// moving are the points of the chapter's examples: 1 and 5 meet at 0, 1 and 2 at 2, and 2 and 5 at 6.
func moving() api.Field {
	return points(pt(1, 0, 2), pt(2, 6, -1), pt(5, 0, 0))
}

// early is the tree of the chapter's examples at 0, late the one at 2, and last the one from 6 on.
func early() api.Tree {
	return of(1, leaf(1), nd(2, 0, 2), leaf(5))
}

func late() api.Tree {
	return of(0, nd(1, -1, 1), nd(2, -1, 2), leaf(5))
}

func last() api.Tree {
	return of(0, nd(1, -1, 2), leaf(2), nd(5, 1, -1))
}

// many is a field of n points whose IDs start with the given one, where the point i has the way of i.
func many(n, first int, way func(i int64) (a, b int64)) api.Field {
	var f api.Field
	for i := range n {
		a, b := way(int64(i))
		f.Points = append(f.Points, pt(first+i, a, b))
	}
	return f
}

// standing are n points of which each one stands at the place of its ID: so of two of them the one with the greater ID is ahead, at all times.
func standing(n int) api.Field {
	return many(n, 0, func(i int64) (a, b int64) { return i, 0 })
}

// crowd are n points of which i and k meet at i + k; before the first one meets another one those with the greater IDs are ahead.
func crowd(n int) api.Field {
	return many(n, 0, func(i int64) (a, b int64) { return i * i, -i })
}

// level are n points that all meet at 1; before that those with the greater IDs are ahead, and from then on those with the lesser ones.
func level(n int) api.Field {
	return many(n, 0, func(i int64) (a, b int64) { return i, -i })
}

// together are n points that are at the same place at all times.
func together(n, first int) api.Field {
	return many(n, first, func(int64) (a, b int64) { return 7, -3 })
}

// falling is a line of n nodes, each one on the right side of the one before it: so the least ID is the root.
func falling(n, first int) api.Tree {
	x := bare()
	for i := range n {
		x.Nodes = append(x.Nodes, nd(first+i, -1, i+1))
	}
	if n > 0 {
		x.Root = 0
		x.Nodes[n-1].Right = -1
	}
	return x
}

// rising is a line of n nodes, each one on the left side of the one behind it: so the greatest ID is the root.
func rising(n, first int) api.Tree {
	x := bare()
	for i := range n {
		x.Nodes = append(x.Nodes, nd(first+i, i-1, -1))
	}
	x.Root = n - 1
	return x
}

// zigzag is a line of n nodes of which each one is on the other side than the one above it: the root has the least ID, below it is the greatest one, below this the second one.
func zigzag(n, first int) api.Tree {
	x := bare()
	for i := range n {
		other := n - 1 - i
		switch {
		case i < other:
			x.Nodes = append(x.Nodes, nd(first+i, -1, other))
		case i > other && other+1 < i:
			x.Nodes = append(x.Nodes, nd(first+i, other+1, -1))
		default:
			x.Nodes = append(x.Nodes, leaf(first+i))
		}
	}
	if n > 0 {
		x.Root = 0
	}
	return x
}

// upTo are the IDs from 0 up to the one before n.
func upTo(n int) []int {
	var list []int
	for id := range n {
		list = append(list, id)
	}
	return list
}

func same(x, y api.Tree) bool {
	return x.Root == y.Root && slices.Equal(x.Nodes, y.Nodes)
}

func clone(x api.Tree) api.Tree {
	return of(x.Root, slices.Clone(x.Nodes)...)
}

// with is a tree after a change of a copy of it.
func with(x api.Tree, change func(x *api.Tree)) api.Tree {
	x = clone(x)
	change(&x)
	return x
}

// mirror is the same tree, whose nodes stand the other way round in Nodes.
func mirror(x api.Tree) api.Tree {
	var order []int
	for i := range x.Nodes {
		order = append(order, len(x.Nodes)-1-i)
	}
	return placed(x, order)
}

// placed is the same tree, whose node i stands at order[i] in Nodes; what is no index is left as it is.
func placed(x api.Tree, order []int) api.Tree {
	moved := func(i int) int {
		if i < 0 || i >= len(order) {
			return i
		}
		return order[i]
	}
	y := of(moved(x.Root), make([]api.Node, len(x.Nodes))...)
	for i, n := range x.Nodes {
		y.Nodes[order[i]] = nd(n.ID, moved(n.Left), moved(n.Right))
	}
	return y
}

// without is a field without the points with some IDs.
func without(f api.Field, list ...int) api.Field {
	return api.Field{Points: slices.DeleteFunc(slices.Clone(f.Points), func(p api.Point) bool { return slices.Contains(list, p.ID) })}
}

// only is a field with the points with some IDs alone.
func only(f api.Field, list ...int) api.Field {
	return api.Field{Points: slices.DeleteFunc(slices.Clone(f.Points), func(p api.Point) bool { return !slices.Contains(list, p.ID) })}
}

// between is a field with the points whose IDs are from low up to the one before high alone.
func between(f api.Field, low, high int) api.Field {
	return api.Field{Points: slices.DeleteFunc(slices.Clone(f.Points), func(p api.Point) bool { return p.ID < low || p.ID >= high })}
}

func idsOf(f api.Field) []int {
	var list []int
	for _, p := range f.Points {
		list = append(list, p.ID)
	}
	return list
}

// enough fails if something was seen so seldom that it was hardly tested.
func enough(t *testing.T, seen int) {
	t.Helper()
	if seen < 1000 {
		t.Error("seen only", seen)
	}
}

// treeOf is Of of a valid field at a valid time.
func treeOf(t *testing.T, f api.Field, at api.Ratio) api.Tree {
	t.Helper()
	x, e := cartes.Of(f, at)
	if e != api.OK {
		t.Fatal(f, at, e)
	}
	return x
}

// right is Right of a valid tree, for a valid field at a valid time.
func right(t *testing.T, x api.Tree, f api.Field, at api.Ratio) bool {
	t.Helper()
	ok, e := cartes.Right(x, f, at)
	if e != api.OK {
		t.Fatal(x, f, at, e)
	}
	return ok
}

// split is Split of a tree that is in order.
func split(t *testing.T, x api.Tree, id int) (low, high api.Tree) {
	t.Helper()
	low, high, e := cartes.Split(x, id)
	if e != api.OK {
		t.Fatal(x, id, e)
	}
	return low, high
}

// merge is Merge of two trees that may be merged.
func merge(t *testing.T, a, b api.Tree, f api.Field, at api.Ratio) api.Tree {
	t.Helper()
	x, e := cartes.Merge(a, b, f, at)
	if e != api.OK {
		t.Fatal(a, b, f, at, e)
	}
	return x
}
