package cartes_test

import (
	"slices"

	"peloton/api"
)

// tooMany are trees with more than MaxPoints nodes, of which all else is right.
func tooMany() []api.Tree {
	m := mixer(65)
	var list []api.Tree
	for _, n := range []int{65, 66, 127, 128, 1000} {
		list = append(list, falling(n, 0), rising(n, 9), zigzag(n, top-n+1), mirror(falling(n, 0)), m.tree(upTo(n)), m.scattered(m.tree(upTo(n))))
	}
	return list
}

// tooManyAndBad are trees with more than MaxPoints nodes that are not valid otherwise, either.
func tooManyAndBad() []api.Tree {
	list := []api.Tree{
		of(-1, make([]api.Node, 65)...), of(0, make([]api.Node, 65)...), of(65, make([]api.Node, 65)...), of(least, make([]api.Node, 5000)...), of(0, slices.Repeat([]api.Node{leaf(1)}, 65)...), of(7, slices.Repeat([]api.Node{nd(-1, -2, most)}, 300)...),
	}
	for _, x := range tooMany() {
		n := len(x.Nodes)
		list = append(list,
			with(x, func(x *api.Tree) { x.Root = -1 }), with(x, func(x *api.Tree) { x.Root = n }), with(x, func(x *api.Tree) { x.Nodes[n/2].ID = -1 }), with(x, func(x *api.Tree) { x.Nodes[0].ID = x.Nodes[n-1].ID }),
			with(x, func(x *api.Tree) { x.Nodes[x.Root].Left = x.Root }), with(x, func(x *api.Tree) { x.Nodes[n-1].Right = n }), with(x, func(x *api.Tree) { x.Nodes[n/3].Left = -2 }),
		)
	}
	return list
}

// noIndexes are numbers that are neither -1 nor the index of one of n nodes.
func noIndexes(n int) []int {
	return ids(-2, -3, n, n+1, 64, 65, 1<<32, 1<<32-1, -1<<32, most, least)
}

// rootsAlone are trees without nodes whose Root is not -1.
func rootsAlone() []api.Tree {
	list := []api.Tree{{}, of(1), of(0, []api.Node{}...)}
	for _, i := range noIndexes(0) {
		list = append(list, of(i))
	}
	return list
}

// otherRoots are trees with nodes whose Root is not the index of one.
func otherRoots() []api.Tree {
	var list []api.Tree
	for _, x := range withNodes() {
		for _, i := range append(noIndexes(len(x.Nodes)), -1) {
			if i < 0 || i >= len(x.Nodes) {
				list = append(list, with(x, func(x *api.Tree) { x.Root = i }))
			}
		}
	}
	return list
}

// withNodes are valid trees with at least one node.
func withNodes() []api.Tree {
	return slices.DeleteFunc(goodTrees(), func(x api.Tree) bool { return len(x.Nodes) == 0 })
}

// free are all sides of the nodes of a tree at which there is no node, as functions that put an index there.
func free(x api.Tree) []func(x *api.Tree, i int) {
	var list []func(x *api.Tree, i int)
	for k, d := range x.Nodes {
		if d.Left == -1 {
			list = append(list, func(x *api.Tree, i int) { x.Nodes[k].Left = i })
		}
		if d.Right == -1 {
			list = append(list, func(x *api.Tree, i int) { x.Nodes[k].Right = i })
		}
	}
	return list
}

// few are some elements of a list: the first ones, some in between, and the last ones.
func few[T any](list []T) []T {
	n := len(list)
	if n <= 8 {
		return list
	}
	return slices.Concat(list[:2], list[n/3:n/3+2], list[n/2:n/2+2], list[n-2:])
}

// otherSides are trees of which one side that has no node is not -1, but no index either.
func otherSides() []api.Tree {
	var list []api.Tree
	for _, x := range withNodes() {
		for _, put := range few(free(x)) {
			for _, i := range noIndexes(len(x.Nodes)) {
				if i < 0 || i >= len(x.Nodes) {
					list = append(list, with(x, func(x *api.Tree) { put(x, i) }))
				}
			}
		}
	}
	return list
}

// lostSides are trees of which one side that has nodes is no index any more.
func lostSides() []api.Tree {
	var list []api.Tree
	for _, x := range withNodes() {
		for k, d := range x.Nodes {
			for _, i := range ids(-2, len(x.Nodes), most, least) {
				if d.Left != -1 {
					list = append(list, with(x, func(x *api.Tree) { x.Nodes[k].Left = i }))
				}
				if d.Right != -1 {
					list = append(list, with(x, func(x *api.Tree) { x.Nodes[k].Right = i }))
				}
			}
		}
	}
	return list
}

// twoSides are trees in which a node is the side of two nodes, and all can be reached.
func twoSides() []api.Tree {
	list := []api.Tree{of(1, nd(1, -1, 2), nd(2, 0, 2), leaf(5)), of(1, nd(1, -1, 2), nd(3, 0, 3), leaf(2), nd(5, 2, -1)), of(0, nd(2, 1, 2), nd(1, -1, 3), nd(4, 3, -1), leaf(3))}
	for _, x := range withNodes() {
		for _, put := range few(free(x)) {
			for _, i := range few(upTo(len(x.Nodes))) {
				if i != x.Root {
					list = append(list, with(x, func(x *api.Tree) { put(x, i) }))
				}
			}
		}
	}
	return list
}

// bothSides are trees in which a node is both sides of one node, and all can be reached.
func bothSides() []api.Tree {
	list := []api.Tree{of(0, nd(2, 1, 1), leaf(1)), of(0, nd(2, 1, 1), leaf(3)), of(0, nd(2, 1, 1), leaf(2)), of(0, nd(0, 1, 1), leaf(top)), of(1, leaf(0), nd(top, 0, 0))}
	for _, x := range withNodes() {
		for k, d := range x.Nodes {
			if d.Left != -1 && d.Right == -1 {
				list = append(list, with(x, func(x *api.Tree) { x.Nodes[k].Right = d.Left }))
			}
			if d.Left == -1 && d.Right != -1 {
				list = append(list, with(x, func(x *api.Tree) { x.Nodes[k].Left = d.Right }))
			}
		}
	}
	return list
}

// rootBelow are trees in which the root is a side of a node, and all can be reached.
func rootBelow() []api.Tree {
	list := []api.Tree{of(0, nd(1, 0, -1)), of(0, nd(1, -1, 0)), of(0, nd(1, 0, 0))}
	for _, x := range withNodes() {
		for _, put := range few(free(x)) {
			list = append(list, with(x, func(x *api.Tree) { put(x, x.Root) }))
		}
	}
	return list
}

// lonely are trees with nodes that cannot be reached: one alone, one above another one, one above nodes of the tree, and rings of them, in which each one is the side of just one node.
func lonely() []api.Tree {
	list := []api.Tree{
		of(0, leaf(1), leaf(2)), of(1, leaf(1), leaf(2)), of(0, leaf(1), nd(2, 0, -1)), of(0, leaf(1), nd(2, 1, -1)), of(0, leaf(1), nd(2, -1, 1)), of(0, leaf(1), nd(2, 2, -1), nd(3, 1, -1)),
		of(0, leaf(1), nd(2, -1, 2), nd(3, 1, -1)), of(2, nd(2, -1, 1), nd(3, 0, -1), leaf(1)), of(1, nd(2, -1, 2), leaf(1), nd(3, -1, 3), nd(4, 0, -1)), of(0, nd(1, -1, 1), leaf(2), nd(3, 2, 3), leaf(5)),
	}
	for _, x := range withNodes() {
		n := len(x.Nodes)
		for _, more := range [][]api.Node{
			{leaf(4)}, {nd(4, n, -1)}, {nd(4, -1, n)}, {nd(4, n, n)}, {nd(4, x.Root, -1)}, {leaf(4), leaf(70)}, {nd(4, -1, n+1), leaf(70)}, {nd(4, -1, n+1), nd(70, n, -1)}, {nd(4, n+1, -1), nd(70, n+2, -1), nd(71, n, -1)},
		} {
			if n+len(more) <= 64 {
				list = append(list, with(x, func(x *api.Tree) { x.Nodes = append(x.Nodes, more...) }))
			}
		}
		// A root whose tree has fewer nodes leaves some above it, or beside it.
		for _, i := range few(upTo(n)) {
			if i != x.Root {
				list = append(list, with(x, func(x *api.Tree) { x.Root = i }))
			}
		}
		for k, d := range x.Nodes {
			if d.Left != -1 {
				list = append(list, with(x, func(x *api.Tree) { x.Nodes[k].Left = -1 }))
			}
			if d.Right != -1 {
				list = append(list, with(x, func(x *api.Tree) { x.Nodes[k].Right = -1 }))
			}
		}
	}
	return list
}

// byID are the indexes of the nodes of a valid tree, from left to right.
func byID(x api.Tree) []int {
	list := upTo(len(x.Nodes))
	slices.SortFunc(list, func(i, k int) int { return x.Nodes[i].ID - x.Nodes[k].ID })
	return list
}

// out are trees with an ID below 0 or above MaxID, which increase as they should.
func out() []api.Tree {
	var list []api.Tree
	for _, x := range withNodes() {
		order := byID(x)
		n := len(order)
		for _, id := range ids(-1, -2, -1<<32, least) {
			list = append(list, with(x, func(x *api.Tree) { x.Nodes[order[0]].ID = id }))
			list = append(list, with(x, func(x *api.Tree) {
				for k, i := range order {
					x.Nodes[i].ID = id + k
				}
			}))
		}
		for _, id := range ids(top+1, top+2, 1<<32, most) {
			list = append(list, with(x, func(x *api.Tree) { x.Nodes[order[n-1]].ID = id }))
			list = append(list, with(x, func(x *api.Tree) {
				for k, i := range order {
					x.Nodes[i].ID = id - n + 1 + k
				}
			}))
		}
	}
	return list
}

// sameTwice are trees in which two nodes have the same ID, and all others increase as they should.
func sameTwice() []api.Tree {
	list := []api.Tree{
		of(0, nd(3, 1, -1), leaf(3)), of(0, nd(3, -1, 1), leaf(3)), of(1, leaf(3), nd(3, 0, -1)), of(0, nd(0, 1, -1), leaf(0)), of(0, nd(top, -1, 1), leaf(top)), of(0, nd(3, 1, 2), leaf(2), leaf(3)), of(0, nd(3, 1, 2), leaf(3), leaf(4)),
		// Far below: the same one is on the other side of a node.
		of(0, nd(3, 1, -1), nd(1, -1, 2), leaf(3)), of(0, nd(3, -1, 1), nd(9, 2, -1), leaf(3)), of(0, nd(3, 1, -1), nd(1, -1, 2), nd(2, -1, 3), leaf(3)), of(0, nd(3, 1, 2), leaf(1), nd(5, 3, -1), nd(4, 4, -1), leaf(3)),
	}
	for _, x := range withNodes() {
		order := byID(x)
		for k := 1; k < len(order); k++ {
			list = append(list, with(x, func(x *api.Tree) { x.Nodes[order[k]].ID = x.Nodes[order[k-1]].ID }))
		}
	}
	return list
}

// disordered are trees whose IDs, all of them different, do not increase from left to right: just below a node, far below one, or everywhere.
func disordered() []api.Tree {
	list := []api.Tree{
		of(0, nd(3, 1, -1), leaf(4)), of(0, nd(3, -1, 1), leaf(2)), of(0, nd(3, 1, 2), leaf(5), leaf(4)), of(0, nd(3, 1, 2), leaf(1), leaf(2)), of(0, nd(3, 2, 1), leaf(1), leaf(5)), of(0, nd(0, 1, -1), leaf(top)), of(0, nd(top, -1, 1), leaf(0)),
		// Each node is well with the one just above it.
		of(0, nd(3, 1, -1), nd(1, -1, 2), leaf(4)), of(0, nd(3, -1, 1), nd(5, 2, -1), leaf(2)), of(0, nd(3, 1, -1), nd(1, -1, 2), nd(2, -1, 3), leaf(4)), of(0, nd(3, -1, 1), nd(9, 2, -1), nd(8, 3, -1), leaf(2)), of(0, nd(10, 1, 2), nd(5, -1, 3), nd(15, 4, -1), leaf(11), leaf(9)),
	}
	for _, x := range withNodes() {
		order := byID(x)
		n := len(order)
		for k := 1; k < n; k++ {
			list = append(list, with(x, func(x *api.Tree) { swapIDs(x, order[k], order[k-1]) }), with(x, func(x *api.Tree) { swapIDs(x, order[k], order[n-1-k/2]) }))
		}
		if n > 1 {
			list = append(list, with(x, func(x *api.Tree) {
				for i, d := range x.Nodes {
					x.Nodes[i] = nd(d.ID, d.Right, d.Left)
				}
			}))
		}
	}
	return slices.DeleteFunc(list, isValid)
}

func swapIDs(x *api.Tree, i, k int) {
	x.Nodes[i].ID, x.Nodes[k].ID = x.Nodes[k].ID, x.Nodes[i].ID
}

// badTrees are trees with at most MaxPoints nodes that are not valid, for each reason, by its name.
func badTrees() map[string][]api.Tree {
	return map[string][]api.Tree{
		"a Root without nodes":             rootsAlone(),
		"a Root that is no index":          otherRoots(),
		"a side that is no index":          otherSides(),
		"no index where there was a node":  lostSides(),
		"a side of two nodes":              twoSides(),
		"both sides of a node":             bothSides(),
		"the root as a side":               rootBelow(),
		"nodes that cannot be reached":     lonely(),
		"an ID below 0 or above MaxID":     out(),
		"the same ID twice":                sameTwice(),
		"IDs that do not increase":         disordered(),
		"nodes as they come, all the same": {of(0, make([]api.Node, 64)...), of(0, make([]api.Node, 1)...), of(1, make([]api.Node, 2)...), of(0, slices.Repeat([]api.Node{leaf(0)}, 64)...), of(-1, slices.Repeat([]api.Node{leaf(-1)}, 3)...)},
	}
}

// allBadTrees are the same ones and those with too many nodes, in the same order in each run.
func allBadTrees() []api.Tree {
	bad := badTrees()
	var reasons []string
	for reason := range bad {
		reasons = append(reasons, reason)
	}
	slices.Sort(reasons)
	list := slices.Concat(tooMany(), tooManyAndBad())
	for _, reason := range reasons {
		list = append(list, bad[reason]...)
	}
	return list
}

// fewBadTrees are some of them for each reason.
func fewBadTrees() []api.Tree {
	bad := badTrees()
	var reasons []string
	for reason := range bad {
		reasons = append(reasons, reason)
	}
	slices.Sort(reasons)
	list := slices.Concat(few(tooMany()), few(tooManyAndBad()))
	for _, reason := range reasons {
		list = append(list, few(bad[reason])...)
	}
	return list
}

// spoiled is a tree with some nodes of which one thing or two are others than in a valid one, so that it is valid no more, mostly.
func (m *mixer) spoiled(n int) api.Tree {
	x := m.tree(idsOf(m.field(1 + m.below(n))))
	if m.below(2) == 0 {
		x = m.scattered(x)
	}
	for range 1 + m.below(2) {
		m.spoil(&x)
	}
	return x
}

func (m *mixer) spoil(x *api.Tree) {
	n := len(x.Nodes)
	i, k := m.below(n), m.below(n)
	switch m.below(8) {
	case 0:
		x.Root = m.pick(-2, -1, i, n)
	case 1:
		x.Nodes[i].ID = m.pick(-1, 0, 1, x.Nodes[k].ID, x.Nodes[k].ID+1, x.Nodes[k].ID-1, top, top+1)
	case 2:
		swapIDs(x, i, k)
	case 3:
		x.Nodes[i], x.Nodes[k] = x.Nodes[k], x.Nodes[i]
	case 4:
		x.Nodes[i].Left, x.Nodes[k].Left = x.Nodes[k].Left, x.Nodes[i].Left
	case 5:
		x.Nodes[i].Right, x.Nodes[k].Right = x.Nodes[k].Right, x.Nodes[i].Right
	case 6:
		x.Nodes = append(x.Nodes, nd(m.pick(70, top, 3), m.pick(-1, i, n), -1))
	default:
		d := x.Nodes[i]
		x.Nodes[i] = nd(d.ID, m.pick(d.Left, d.Right, -1, k), m.pick(d.Left, d.Right, -1, k))
	}
}
