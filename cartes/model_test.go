package cartes_test

import (
	"cmp"
	"math/big"
	"slices"

	"peloton/api"
)

// The functions here follow the definitions and the promises word by word: places and times are those of math/big, who is below whom is told by what can be reached from a node, and trees that are made are those of twigs, which have no places in Nodes.

// isTime follows the definition of a valid fraction.
func isTime(r api.Ratio) bool {
	if r.Den < 1 || r.Num == least {
		return false
	}
	return big.NewRat(r.Num, r.Den).Denom().Cmp(big.NewInt(r.Den)) == 0
}

// fieldError is the error of a field: the one that is named first.
func fieldError(f api.Field) api.Errno {
	if len(f.Points) > 64 {
		return api.ErrMany
	}
	for _, p := range f.Points {
		if p.ID < 0 || p.ID > 65535 || max(p.A, p.B) > 1<<20 || min(p.A, p.B) < -1<<20 {
			return api.ErrBad
		}
	}
	for i, p := range f.Points {
		if i > 0 && f.Points[i-1].ID >= p.ID {
			return api.ErrOrder
		}
	}
	return api.OK
}

// stageError is the error of a field and a time.
func stageError(f api.Field, t api.Ratio) api.Errno {
	if e := fieldError(f); e != api.OK {
		return e
	}
	if !isTime(t) {
		return api.ErrBad
	}
	return api.OK
}

// point is the point with an ID, if it is there.
func point(f api.Field, id int) (api.Point, bool) {
	for _, p := range f.Points {
		if p.ID == id {
			return p, true
		}
	}
	return api.Point{}, false
}

// place is where a point is at a time, as so many parts of one that the denominator of the time names.
func place(p api.Point, t api.Ratio) *big.Int {
	a := new(big.Int).Mul(big.NewInt(p.A), big.NewInt(t.Den))
	b := new(big.Int).Mul(big.NewInt(p.B), big.NewInt(t.Num))
	return a.Add(a, b)
}

// isAhead reports whether p is ahead of q: by its place, then by its speed, then by its ID.
func isAhead(p, q api.Point, t api.Ratio) bool {
	return cmp.Or(place(q, t).Cmp(place(p, t)), cmp.Compare(q.B, p.B), cmp.Compare(p.ID, q.ID)) < 0
}

// reached tells of each node of a tree whether it is the node with an index, or can be reached from it.
func reached(x api.Tree, from int) []bool {
	there := make([]bool, len(x.Nodes))
	work := ids(from)
	for len(work) > 0 {
		i := work[0]
		work = work[1:]
		if i >= 0 && i < len(there) && !there[i] {
			there[i] = true
			work = append(work, x.Nodes[i].Left, x.Nodes[i].Right)
		}
	}
	return there
}

// under are the IDs of the node with an index and of all nodes below it, in increasing order.
func under(x api.Tree, from int) []int {
	var list []int
	for i, there := range reached(x, from) {
		if there {
			list = append(list, x.Nodes[i].ID)
		}
	}
	slices.Sort(list)
	return list
}

// hangsTogether follows the definition, in what it says of the root and of Left and Right.
func hangsTogether(x api.Tree) bool {
	n := len(x.Nodes)
	if n == 0 {
		return x.Root == -1
	}
	if x.Root < 0 || x.Root >= n {
		return false
	}
	sides := make([]int, n)
	for _, d := range x.Nodes {
		for _, side := range ids(d.Left, d.Right) {
			if side < -1 || side >= n {
				return false
			}
			if side != -1 {
				sides[side]++
			}
		}
	}
	for i, often := range sides {
		if i == x.Root && often != 0 || i != x.Root && often != 1 {
			return false
		}
	}
	return !slices.Contains(reached(x, x.Root), false)
}

// isValid follows the definition of a valid tree, whose nodes are not too many.
func isValid(x api.Tree) bool {
	if !hangsTogether(x) {
		return false
	}
	for _, d := range x.Nodes {
		if d.ID < 0 || d.ID > 65535 {
			return false
		}
		low, high := under(x, d.Left), under(x, d.Right)
		if len(low) > 0 && low[len(low)-1] >= d.ID || len(high) > 0 && high[0] <= d.ID {
			return false
		}
	}
	return true
}

// treeError is what Check returns.
func treeError(x api.Tree) api.Errno {
	if len(x.Nodes) > 64 {
		return api.ErrMany
	}
	if !isValid(x) {
		return api.ErrBad
	}
	return api.OK
}

// inOrder follows the definition of a valid tree that is in order.
func inOrder(x api.Tree) bool {
	return slices.IsSortedFunc(x.Nodes, func(c, d api.Node) int { return cmp.Compare(c.ID, d.ID) })
}

// isTreeOf follows the definition of the tree of a field at a time.
func isTreeOf(x api.Tree, f api.Field, t api.Ratio) bool {
	if treeError(x) != api.OK || !inOrder(x) || len(x.Nodes) != len(f.Points) {
		return false
	}
	for _, d := range x.Nodes {
		p, ok := point(f, d.ID)
		if !ok {
			return false
		}
		for _, id := range slices.Concat(under(x, d.Left), under(x, d.Right)) {
			if q, ok := point(f, id); !ok || !isAhead(p, q, t) {
				return false
			}
		}
	}
	return true
}

// twig is a node of a tree and both sides of it; no twig is the tree without nodes.
type twig struct {
	id          int
	left, right *twig
}

// list are all IDs of a tree, from left to right.
func (w *twig) list() []int {
	if w == nil {
		return nil
	}
	return slices.Concat(w.left.list(), ids(w.id), w.right.list())
}

// tree is a tree of twigs as one that is in order.
func (w *twig) tree() api.Tree {
	all := w.list()
	index := func(w *twig) int {
		if w == nil {
			return -1
		}
		return slices.Index(all, w.id)
	}
	x := of(index(w), make([]api.Node, len(all))...)
	var put func(w *twig)
	put = func(w *twig) {
		if w != nil {
			x.Nodes[index(w)] = nd(w.id, index(w.left), index(w.right))
			put(w.left)
			put(w.right)
		}
	}
	put(w)
	return x
}

// twigs are those of a valid tree, from the node with an index on.
func twigs(x api.Tree, from int) *twig {
	if from == -1 {
		return nil
	}
	d := x.Nodes[from]
	return &twig{d.ID, twigs(x, d.Left), twigs(x, d.Right)}
}

// grown is the tree of some points: the one that is ahead of all others is the root, with those with lesser IDs on its left side, and those with greater ones on its right side.
func grown(list []api.Point, t api.Ratio) *twig {
	if len(list) == 0 {
		return nil
	}
	lead := 0
	for i, p := range list {
		if i != lead && isAhead(p, list[lead], t) {
			lead = i
		}
	}
	return &twig{list[lead].ID, grown(list[:lead], t), grown(list[lead+1:], t)}
}

// belows are, for the ID of each node, those of all nodes below it.
func belows(x api.Tree) map[int][]int {
	list := map[int][]int{}
	for i, d := range x.Nodes {
		list[d.ID] = slices.DeleteFunc(under(x, i), func(id int) bool { return id == d.ID })
	}
	return list
}

// chosen is the tree of some IDs of a tree, in increasing order, in which each one is above those above which it was: the root is the one that was above all others.
func chosen(below map[int][]int, list []int) *twig {
	for i, id := range list {
		first := true
		for k, other := range list {
			first = first && (i == k || slices.Contains(below[id], other))
		}
		if first {
			return &twig{id, chosen(below, list[:i]), chosen(below, list[i+1:])}
		}
	}
	return nil
}

// merged follows the definition of merging.
func merged(a, b *twig, f api.Field, t api.Ratio) *twig {
	if a == nil {
		return b
	}
	if b == nil {
		return a
	}
	p, _ := point(f, a.id)
	q, _ := point(f, b.id)
	if isAhead(p, q, t) {
		return &twig{a.id, a.left, merged(a.right, b, f, t)}
	}
	return &twig{b.id, merged(a, b.left, f, t), b.right}
}

// ofField is what Of returns.
func ofField(f api.Field, t api.Ratio) (api.Tree, api.Errno) {
	if e := stageError(f, t); e != api.OK {
		return api.Tree{}, e
	}
	return grown(f.Points, t).tree(), api.OK
}

// idsFrom is what IDs returns.
func idsFrom(x api.Tree) ([]int, api.Errno) {
	if e := treeError(x); e != api.OK {
		return nil, e
	}
	return under(x, x.Root), api.OK
}

// depthOf is what Depth returns: from so many other nodes it can be reached.
func depthOf(x api.Tree, id int) (int, api.Errno) {
	if e := treeError(x); e != api.OK {
		return 0, e
	}
	depth := -1
	for i := range x.Nodes {
		if slices.Contains(under(x, i), id) {
			depth++
		}
	}
	if depth == -1 {
		return 0, api.ErrNone
	}
	return depth, api.OK
}

// whetherSame is what Same returns.
func whetherSame(x, y api.Tree) (bool, api.Errno) {
	for _, z := range []api.Tree{x, y} {
		if e := treeError(z); e != api.OK {
			return false, e
		}
	}
	return isSame(x, y), api.OK
}

// isSame reports whether valid trees have the same IDs, with the same ones on both sides of each.
func isSame(x, y api.Tree) bool {
	if !slices.Equal(under(x, x.Root), under(y, y.Root)) {
		return false
	}
	for _, c := range x.Nodes {
		for _, d := range y.Nodes {
			if c.ID == d.ID && (!slices.Equal(under(x, c.Left), under(y, d.Left)) || !slices.Equal(under(x, c.Right), under(y, d.Right))) {
				return false
			}
		}
	}
	return true
}

// whetherRight is what Right returns.
func whetherRight(x api.Tree, f api.Field, t api.Ratio) (bool, api.Errno) {
	if e := treeError(x); e != api.OK {
		return false, e
	}
	if e := stageError(f, t); e != api.OK {
		return false, e
	}
	return isTreeOf(twigs(x, x.Root).tree(), f, t), api.OK
}

// halves is what Split returns.
func halves(x api.Tree, id int) (low, high api.Tree, e api.Errno) {
	if e := treeError(x); e != api.OK {
		return api.Tree{}, api.Tree{}, e
	}
	if !inOrder(x) {
		return api.Tree{}, api.Tree{}, api.ErrOrder
	}
	all, below := under(x, x.Root), belows(x)
	first := 0
	for first < len(all) && all[first] < id {
		first++
	}
	return chosen(below, all[:first]).tree(), chosen(below, all[first:]).tree(), api.OK
}

// mergeError is the error of Merge: the one that is named first.
func mergeError(a, b api.Tree, f api.Field, t api.Ratio) api.Errno {
	for _, x := range []api.Tree{a, b} {
		if e := treeError(x); e != api.OK {
			return e
		}
	}
	if !inOrder(a) || !inOrder(b) {
		return api.ErrOrder
	}
	if e := stageError(f, t); e != api.OK {
		return e
	}
	low, high := under(a, a.Root), under(b, b.Root)
	if len(low)+len(high) > 64 {
		return api.ErrMany
	}
	for _, id := range slices.Concat(low, high) {
		if _, ok := point(f, id); !ok {
			return api.ErrNone
		}
	}
	for _, i := range low {
		for _, k := range high {
			if i >= k {
				return api.ErrOrder
			}
		}
	}
	return api.OK
}

// oneOf is what Merge returns.
func oneOf(a, b api.Tree, f api.Field, t api.Ratio) (api.Tree, api.Errno) {
	if e := mergeError(a, b, f, t); e != api.OK {
		return api.Tree{}, e
	}
	return merged(twigs(a, a.Root), twigs(b, b.Root), f, t).tree(), api.OK
}
