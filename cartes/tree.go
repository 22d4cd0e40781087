package cartes

import (
	"cmp"
	"slices"

	"peloton/api"
)

// none stands where there is no node.
const none = -1

// walker goes over the nodes of a tree from left to right, and keeps the indexes of those to which it came.
type walker struct {
	nodes []api.Node
	seen  []bool
	order []int
}

// walk returns the indexes of the nodes of a tree from left to right, and whether all of them are reached from the root, each one once.
func walk(x api.Tree) ([]int, bool) {
	w := walker{nodes: x.Nodes, seen: make([]bool, len(x.Nodes))}
	whole := w.from(x.Root) && len(w.order) == len(x.Nodes)
	return w.order, whole
}

// from goes over a node and all below it, and reports whether each index is that of a node to which it had not come before.
func (w *walker) from(i int) bool {
	if i == none {
		return true
	}
	// Without this a ring of nodes would have no end.
	if i < 0 || i >= len(w.nodes) || w.seen[i] {
		return false
	}
	w.seen[i] = true
	if !w.from(w.nodes[i].Left) {
		return false
	}
	w.order = append(w.order, i)
	return w.from(w.nodes[i].Right)
}

// idsFit reports whether the nodes with some indexes have IDs that increase strictly, from 0 to MaxID.
func idsFit(nodes []api.Node, order []int) bool {
	last := -1
	for _, i := range order {
		id := nodes[i].ID
		if id <= last || id > api.MaxID {
			return false
		}
		last = id
	}
	return true
}

// ordered is a valid tree with its nodes in the order of their IDs: so trees that are the same have the same nodes.
func ordered(x api.Tree) api.Tree {
	order, _ := walk(x)
	places := make([]int, len(order))
	for k, i := range order {
		places[i] = k
	}
	moved := func(i int) int {
		if i == none {
			return none
		}
		return places[i]
	}
	r := api.Tree{Root: moved(x.Root)}
	for _, i := range order {
		n := x.Nodes[i]
		r.Nodes = append(r.Nodes, api.Node{ID: n.ID, Left: moved(n.Left), Right: moved(n.Right)})
	}
	return r
}

func equal(x, y api.Tree) bool {
	return x.Root == y.Root && slices.Equal(x.Nodes, y.Nodes)
}

// lesser is how many nodes of a tree that is in order have lesser IDs.
func lesser(nodes []api.Node, id int) int {
	n, _ := slices.BinarySearchFunc(nodes, id, func(n api.Node, id int) int { return cmp.Compare(n.ID, id) })
	return n
}

// shift are nodes in new memory whose sides are so much further.
func shift(nodes []api.Node, by int) []api.Node {
	var list []api.Node
	for _, n := range nodes {
		list = append(list, api.Node{ID: n.ID, Left: further(n.Left, by), Right: further(n.Right, by)})
	}
	return list
}

// further is an index that is so much further, or none.
func further(i, by int) int {
	if i == none {
		return none
	}
	return i + by
}
