package tests

import (
	"fmt"
	"math"
	"math/big"
	"slices"
	"testing"

	"loop.example/s01121/impl"
)

// shape is a depth and a leaf.
type shape struct {
	depth, leaf int
}

// shapes have every level at which a tree of MaxTris triangles can end, and the
// bounds of both numbers.
func shapes() []shape {
	var all []shape
	for _, depth := range []int{0, 1, 2, 3, 4, 5, 6, 7, impl.MaxDepth} {
		for _, leaf := range []int{1, 2, 3, 7, impl.MaxTris - 1, impl.MaxTris} {
			all = append(all, shape{depth, leaf})
		}
	}
	return all
}

// wrongShapes are outside the bounds by one number or by both.
func wrongShapes() []shape {
	var all []shape
	for _, depth := range []int{-1, impl.MaxDepth + 1, math.MinInt, math.MaxInt} {
		all = append(all, shape{depth, 1}, shape{depth, impl.MaxTris}, shape{depth, 0})
	}
	for _, leaf := range []int{0, -1, impl.MaxTris + 1, math.MinInt, math.MaxInt} {
		all = append(all, shape{0, leaf}, shape{impl.MaxDepth, leaf})
	}
	return all
}

// treeCheck holds the nodes of an answer against the document's words.
type treeCheck struct {
	shape
	tris  []impl.Tri
	nodes []impl.Node
}

// checkTree wants the tree that the document describes, node by node.
func checkTree(t *testing.T, what string, tris []impl.Tri, s shape) []impl.Node {
	t.Helper()
	nodes, code := impl.BuildTree(tris, s.depth, s.leaf)
	if code != impl.CodeOK {
		t.Fatalf("%s, %v: code %d", what, s, code)
	}
	var members []int
	for i, tri := range tris {
		if !exactFlat(tri) {
			members = append(members, i)
		}
	}
	end, fault := 0, ""
	if len(members) > 0 {
		end, fault = treeCheck{s, tris, nodes}.walk(0, members, 0)
	}
	if fault == "" && end != len(nodes) {
		fault = fmt.Sprintf("%d nodes, want %d", len(nodes), end)
	}
	if fault != "" {
		t.Errorf("%s, %v: %s", what, s, fault)
	}
	return nodes
}

// walk looks at the node of these triangles, which are ascending, and at all
// below it. It answers the index behind them, and the first fault.
func (c treeCheck) walk(at int, members []int, level int) (int, string) {
	if at >= len(c.nodes) {
		return 0, fmt.Sprintf("no node %d", at)
	}
	want := impl.Node{}
	want.Lo, want.Hi = c.box(members)
	if len(members) <= c.leaf || level == c.depth {
		want.Tris = members
		return at + 1, c.compare(at, want)
	}
	left, right := c.halves(members, level%3)
	next, fault := c.walk(at+1, left, level+1)
	if fault != "" {
		return 0, fault
	}
	want.Left, want.Right = at+1, next
	if fault := c.compare(at, want); fault != "" {
		return 0, fault
	}
	return c.walk(next, right, level+1)
}

func (c treeCheck) compare(at int, want impl.Node) string {
	got := c.nodes[at]
	if got.Lo != want.Lo || got.Hi != want.Hi || got.Left != want.Left || got.Right != want.Right || !slices.Equal(got.Tris, want.Tris) {
		return fmt.Sprintf("node %d is %x, want %x", at, got, want)
	}
	return ""
}

// halves sorts nothing: it counts how many go before each triangle.
func (c treeCheck) halves(members []int, axis int) (left, right []int) {
	for _, i := range members {
		before := 0
		for _, j := range members {
			x, y := leastOn(c.tris[i], axis), leastOn(c.tris[j], axis)
			if y < x || y == x && j < i {
				before++
			}
		}
		if before < len(members)/2 {
			left = append(left, i)
		} else {
			right = append(right, i)
		}
	}
	return left, right
}

func (c treeCheck) box(members []int) (lo, hi impl.Point) {
	for axis := range 3 {
		low, high := math.Inf(1), math.Inf(-1)
		for _, i := range members {
			for _, x := range valuesOn(c.tris[i], axis) {
				low, high = min(low, x), max(high, x)
			}
		}
		lo, hi = with(lo, axis, bitsOf(low)), with(hi, axis, bitsOf(high))
	}
	return lo, hi
}

// bitsOf has one form for both zeros.
func bitsOf(x float64) uint32 {
	if x == 0 {
		return 0
	}
	return math.Float32bits(float32(x))
}

func valuesOn(t impl.Tri, axis int) [3]float64 {
	return [3]float64{floatsOf(t.A)[axis], floatsOf(t.B)[axis], floatsOf(t.C)[axis]}
}

func leastOn(t impl.Tri, axis int) float64 {
	x := valuesOn(t, axis)
	return min(x[0], x[1], x[2])
}

// leafOrder is the triangles of all leaves, one leaf after another.
func leafOrder(nodes []impl.Node) []int {
	var all []int
	for _, n := range nodes {
		all = append(all, n.Tris...)
	}
	return all
}

// exactHits goes by the library's fractions: it takes the nearest triangle that
// is left, the first of equal ones, until none is left.
func exactHits(tris []impl.Tri, r impl.Ray) []int {
	type met struct {
		index    int
		distance *big.Rat
	}
	var left []met
	for i, tri := range tris {
		if d := exactDistance(tri, r); d != nil {
			left = append(left, met{i, d})
		}
	}
	var all []int
	for len(left) > 0 {
		next := 0
		for i, m := range left {
			if m.distance.Cmp(left[next].distance) < 0 {
				next = i
			}
		}
		all = append(all, left[next].index)
		left = slices.Delete(left, next, next+1)
	}
	return all
}

// checkHits wants these indexes from AllHits, and the first of them, or -1, from
// FirstHit for every shape.
func checkHits(t *testing.T, what string, tris []impl.Tri, r impl.Ray, want []int) {
	t.Helper()
	if all, code := impl.AllHits(tris, r); code != impl.CodeOK || !slices.Equal(all, want) {
		t.Errorf("%s: AllHits of %x and %x is %v, code %d, want %v", what, tris, r, all, code, want)
	}
	first := -1
	if len(want) > 0 {
		first = want[0]
	}
	for _, s := range shapes() {
		if id, code := impl.FirstHit(tris, r, s.depth, s.leaf); code != impl.CodeOK || id != first {
			t.Errorf("%s, %v: FirstHit of %x and %x is %d, code %d, want %d", what, s, tris, r, id, code, first)
		}
	}
}

// checkExactHits does the same with the indexes by the library's fractions.
func checkExactHits(t *testing.T, what string, tris []impl.Tri, r impl.Ray) []int {
	t.Helper()
	want := exactHits(tris, r)
	checkHits(t, what, tris, r, want)
	return want
}

// moved is the triangle with the corners (x, y, z), (x + 1, y, z) and
// (x, y + 1, z + 1).
func moved(x, y, z float32) impl.Tri {
	return impl.Tri{A: point(x, y, z), B: point(x+1, y, z), C: point(x, y+1, z+1)}
}

// upright stands in the plane of all points with this X.
func upright(x float32) impl.Tri {
	return impl.Tri{A: point(x, -1, -1), B: point(x, 3, -1), C: point(x, -1, 3)}
}

// flats are triangles without points: one point, two, three in a line, three
// that differ by the sign of a zero.
func flats() []impl.Tri {
	a, b, c := point(1, 2, 3), point(2, 4, 6), point(-1, -2, -3)
	zero := impl.Point{}
	return []impl.Tri{{A: a, B: a, C: a}, {A: a, B: b, C: a}, {A: a, B: b, C: c}, {}, {A: zero, B: otherZeros(zero), C: b}}
}

// scene has n triangles of a grid, and often some of them twice.
func (c *chance) scene(n int, limit uint32, exponent int) []impl.Tri {
	var tris []impl.Tri
	for len(tris) < n {
		if len(tris) > 0 && c.below(4) == 0 {
			tris = append(tris, orders(tris[c.below(uint32(len(tris)))])[c.below(6)])
		} else {
			tris = append(tris, c.gridTri(limit, exponent))
		}
	}
	return tris
}
