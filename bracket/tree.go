package bracket

import "iter"

// node is what is at a node of a tree, whose leaves come behind its inner nodes.
func node[T any](inner, leaves []T, i int) T {
	if i < len(inner) {
		return inner[i]
	}
	return leaves[i-len(inner)]
}

// children are what is at both children of an inner node.
func children[T any](inner, leaves []T, i int) (T, T) {
	return node(inner, leaves, 2*i+1), node(inner, leaves, 2*i+2)
}

// fold makes the inner nodes of the tree with some leaves, of which there is at least one: each of them is what its children are together.
func fold[T any](leaves []T, join func(a, b T) T) []T {
	inner := make([]T, len(leaves)-1)
	// Children come behind their node, so from the last node on they are made before it.
	for i := len(inner) - 1; i >= 0; i-- {
		inner[i] = join(children(inner, leaves, i))
	}
	return inner
}

// above goes over the inner nodes above a node, from below to the root.
func above(i int) iter.Seq[int] {
	return func(yield func(i int) bool) {
		for k := i; k > 0; {
			k = (k - 1) / 2
			if !yield(k) {
				return
			}
		}
	}
}
