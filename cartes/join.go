package cartes

import (
	"peloton/api"
	"peloton/course"
	"peloton/field"
)

// grove are the nodes of some trees, in the order of their IDs, which become those of one tree, and the point of each one at a valid time.
type grove struct {
	nodes  []api.Node
	points []api.Point
	at     api.Ratio
}

// grow makes the tree of a valid field at a valid time.
func grow(f api.Field, t api.Ratio) api.Tree {
	x := api.Tree{Root: none}
	for _, p := range f.Points {
		x.Nodes = append(x.Nodes, api.Node{ID: p.ID, Left: none, Right: none})
	}
	g := grove{x.Nodes, f.Points, t}
	// Each node is a tree of its own, whose ID is greater than those before it.
	for i := range g.nodes {
		x.Root = g.join(x.Root, i)
	}
	return x
}

// join makes one tree of two, of which all IDs of the first one are less than those of the second one, and returns its root.
func (g grove) join(low, high int) int {
	if low == none {
		return high
	}
	if high == none {
		return low
	}
	// Points and time are valid and the IDs differ, so there is no error.
	if ahead, _ := course.Ahead(g.points[low], g.points[high], g.at); ahead {
		g.nodes[low].Right = g.join(g.nodes[low].Right, high)
		return low
	}
	g.nodes[high].Left = g.join(low, g.nodes[high].Left)
	return high
}

// part makes two trees of one, of all nodes with IDs less than the given one and of all others, and returns the roots of both.
func part(nodes []api.Node, i, id int) (low, high int) {
	if i == none {
		return none, none
	}
	if nodes[i].ID < id {
		nodes[i].Right, high = part(nodes, nodes[i].Right, id)
		return i, high
	}
	low, nodes[i].Left = part(nodes, nodes[i].Left, id)
	return low, i
}

// pointsOf are the points of nodes, or ErrNone if a valid field lacks one.
func pointsOf(f api.Field, nodes []api.Node) ([]api.Point, api.Errno) {
	var points []api.Point
	for _, n := range nodes {
		p, e := field.Find(f, n.ID)
		if e != api.OK {
			return nil, e
		}
		points = append(points, p)
	}
	return points, api.OK
}
