package tests

import (
	"fmt"
	"math"
	"slices"
	"testing"

	"loop.example/s01121/impl"
)

func TestBuildTreeByHand(t *testing.T) {
	leaf := func(lo, hi impl.Point, tris ...int) impl.Node {
		return impl.Node{Lo: lo, Hi: hi, Tris: tris}
	}
	inner := func(lo, hi impl.Point, left, right int) impl.Node {
		return impl.Node{Lo: lo, Hi: hi, Left: left, Right: right}
	}
	one := []impl.Tri{{A: point(3, -2, 7), B: point(-1, 5, 6), C: point(2, 0, 9)}}
	// By X: 2, 4 | 0, 1, 3; by Y: 4 | 2 and 3 | 1, 0; by Z: 1 | 0.
	five := []impl.Tri{moved(5, 7, 2), moved(6, 6, -2), moved(0, 4, 0), moved(7, 1, 0), moved(1, 3, 9)}
	for _, c := range []struct {
		name string
		tris []impl.Tri
		shape
		want []impl.Node
	}{
		{"no triangle", nil, shape{5, 1}, nil},
		{"an empty list", []impl.Tri{}, shape{0, impl.MaxTris}, nil},
		{"flat ones only", flats(), shape{5, 1}, nil},
		{"one triangle", one, shape{impl.MaxDepth, 1}, []impl.Node{leaf(point(-1, -2, 6), point(3, 5, 9), 0)}},
		{"one between flat ones", slices.Concat(flats(), one, flats()), shape{3, 1}, []impl.Node{leaf(point(-1, -2, 6), point(3, 5, 9), 5)}},
		{"five in one leaf", five, shape{impl.MaxDepth, 5}, []impl.Node{leaf(point(0, 1, -2), point(8, 8, 10), 0, 1, 2, 3, 4)}},
		{"five at depth 0", five, shape{0, 1}, []impl.Node{leaf(point(0, 1, -2), point(8, 8, 10), 0, 1, 2, 3, 4)}},
		{"five at depth 1", five, shape{1, 1}, []impl.Node{
			inner(point(0, 1, -2), point(8, 8, 10), 1, 2),
			leaf(point(0, 3, 0), point(2, 5, 10), 2, 4),
			leaf(point(5, 1, -2), point(8, 8, 3), 0, 1, 3),
		}},
		{"five, two in a leaf", five, shape{impl.MaxDepth, 2}, []impl.Node{
			inner(point(0, 1, -2), point(8, 8, 10), 1, 2),
			leaf(point(0, 3, 0), point(2, 5, 10), 2, 4),
			inner(point(5, 1, -2), point(8, 8, 3), 3, 4),
			leaf(point(7, 1, 0), point(8, 2, 1), 3),
			leaf(point(5, 6, -2), point(7, 8, 3), 0, 1),
		}},
		{"five, one in a leaf", five, shape{3, 1}, []impl.Node{
			inner(point(0, 1, -2), point(8, 8, 10), 1, 4),
			inner(point(0, 3, 0), point(2, 5, 10), 2, 3),
			leaf(point(1, 3, 9), point(2, 4, 10), 4),
			leaf(point(0, 4, 0), point(1, 5, 1), 2),
			inner(point(5, 1, -2), point(8, 8, 3), 5, 6),
			leaf(point(7, 1, 0), point(8, 2, 1), 3),
			inner(point(5, 6, -2), point(7, 8, 3), 7, 8),
			leaf(point(6, 6, -2), point(7, 7, -1), 1),
			leaf(point(5, 7, 2), point(6, 8, 3), 0),
		}},
	} {
		nodes, code := impl.BuildTree(c.tris, c.depth, c.leaf)
		if code != impl.CodeOK || len(nodes) != len(c.want) {
			t.Errorf("%s: %d nodes, code %d, want %d", c.name, len(nodes), code, len(c.want))
			continue
		}
		check := treeCheck{c.shape, c.tris, nodes}
		for i, want := range c.want {
			if fault := check.compare(i, want); fault != "" {
				t.Errorf("%s: %s", c.name, fault)
			}
		}
		checkTree(t, c.name, c.tris, c.shape)
	}
}

// TestBuildTreeGoesByIndexWhereEqual has triangles that fall together: at every
// level the first half has the smaller indexes.
func TestBuildTreeGoesByIndexWhereEqual(t *testing.T) {
	for n := range impl.MaxTris + 1 {
		tris := slices.Repeat([]impl.Tri{level(3)}, n)
		nodes := checkTree(t, fmt.Sprint(n, " equal ones"), tris, shape{impl.MaxDepth, 1})
		if len(nodes) != max(2*n-1, 0) {
			t.Errorf("%d equal ones: %d nodes", n, len(nodes))
		}
		for i, index := range leafOrder(nodes) {
			if i != index {
				t.Errorf("%d equal ones: the leaves are %v", n, leafOrder(nodes))
				break
			}
		}
	}
}

// TestBuildTreeTakesTheAxesInTurn has so many triangles that fall together that
// the last two are parted at a level, where one of them is moved on an axis: they
// change places if it is the axis of that level.
func TestBuildTreeTakesTheAxesInTurn(t *testing.T) {
	for at, n := range []int{2, 4, 8, 16, 32, 40} {
		for axis := range 3 {
			tris := slices.Repeat([]impl.Tri{moved(0, 0, 0)}, n)
			var by [3]float32
			by[axis] = 1
			tris[n-2] = moved(by[0], by[1], by[2])
			want := make([]int, n)
			for i := range want {
				want[i] = i
			}
			if axis == at%3 {
				want[n-2], want[n-1] = n-1, n-2
			}
			nodes := checkTree(t, fmt.Sprint(n, " on axis ", axis), tris, shape{impl.MaxDepth, 1})
			if got := leafOrder(nodes); !slices.Equal(got, want) {
				t.Errorf("level %d, axis %d: the leaves are %v", at, axis, got)
			}
		}
	}
}

// TestBuildTreeGoesByTheLeastCoordinate has triangles whose order by their
// greatest coordinate, by one corner or by their middle would be another one.
func TestBuildTreeGoesByTheLeastCoordinate(t *testing.T) {
	for i, low := range orders(impl.Tri{A: point(-1, 0, 0), B: point(90, 5, 0), C: point(90, 0, 5)}) {
		high := impl.Tri{A: point(0, 0, 0), B: point(1, 5, 0), C: point(1, 0, 5)}
		for _, pair := range [][]impl.Tri{{low, high}, {high, low}} {
			nodes := checkTree(t, fmt.Sprint("order ", i), pair, shape{impl.MaxDepth, 1})
			if len(nodes) != 3 || pair[nodes[1].Tris[0]] != low {
				t.Errorf("order %d: %x", i, nodes)
			}
		}
	}
}

// TestBuildTreeLeavesOutFlatOnes has them at the beginning, at the end and in
// between, also where they would change a box or an order.
func TestBuildTreeLeavesOutFlatOnes(t *testing.T) {
	const most = math.MaxFloat32
	wide := impl.Tri{A: point(-most, -most, -most), B: point(0, 0, 0), C: point(most, most, most)}
	for i, flat := range append(flats(), wide) {
		plain := []impl.Tri{moved(3, 1, 2), moved(2, 2, 2), moved(1, 3, 0), moved(0, 0, 1)}
		for place := range len(plain) + 1 {
			tris := slices.Insert(slices.Clone(plain), place, flat)
			for _, s := range shapes() {
				nodes := checkTree(t, fmt.Sprint("flat ", i, " at ", place), tris, s)
				bare, _ := impl.BuildTree(plain, s.depth, s.leaf)
				if len(bare) != len(nodes) || slices.Contains(leafOrder(nodes), place) {
					t.Errorf("flat %d at %d, %v: %x", i, place, s, nodes)
				}
			}
		}
		nodes, code := impl.BuildTree(slices.Repeat([]impl.Tri{flat}, impl.MaxTris), 5, 1)
		if code != impl.CodeOK || len(nodes) != 0 {
			t.Errorf("flat %d only: %d nodes, code %d", i, len(nodes), code)
		}
	}
	// One last bit beside the line it is a triangle again.
	nearly := wide
	nearly.B = beside(nearly.B, 1, 1)
	if nodes := checkTree(t, "nearly flat", []impl.Tri{wide, nearly}, shape{5, 1}); !slices.Equal(leafOrder(nodes), []int{1}) {
		t.Errorf("nearly flat: %x", nodes)
	}
}

// TestBuildTreeHasPositiveZeros has zeros of all signs as the least and as the
// greatest value of each coordinate, of leaves and of the nodes above them.
func TestBuildTreeHasPositiveZeros(t *testing.T) {
	const minus = float32(-5)
	for signs := range uint32(8) {
		zeros := [3]uint32{signs << 31, signs >> 1 << 31, signs >> 2 << 31}
		for axis := range 3 {
			for _, tri := range orders(impl.Tri{A: point(4, 0, 7), B: point(1, 4, 9), C: point(3, 1, 4)}) {
				// All three corners have a zero, then one has something less or more.
				tri.A, tri.B, tri.C = with(tri.A, axis, zeros[0]), with(tri.B, axis, zeros[1]), with(tri.C, axis, zeros[2])
				less, more := tri, tri
				less.B = with(less.B, axis, math.Float32bits(minus))
				more.B = with(more.B, axis, math.Float32bits(-minus))
				for _, tris := range [][]impl.Tri{{tri}, {less}, {more}, {less, tri}, {tri, more}, {more, tri, more}, {tri, tri, less, less}} {
					for _, s := range []shape{{0, 1}, {1, 1}, {impl.MaxDepth, 1}} {
						for _, n := range checkTree(t, fmt.Sprintf("zeros %x on axis %d", zeros, axis), tris, s) {
							if hasMinusZero(n.Lo) || hasMinusZero(n.Hi) {
								t.Errorf("zeros %x on axis %d: %x", zeros, axis, n)
							}
						}
					}
				}
			}
		}
	}
}

func hasMinusZero(p impl.Point) bool {
	return p.X == signBit || p.Y == signBit || p.Z == signBit
}

// TestBuildTreeZerosAreEqual has the zeros of both signs as least coordinates:
// they go by index, as equal ones do.
func TestBuildTreeZerosAreEqual(t *testing.T) {
	plus := moved(0, 0, 0)
	minus := impl.Tri{A: otherZeros(plus.A), B: otherZeros(plus.B), C: otherZeros(plus.C)}
	for _, tris := range [][]impl.Tri{{plus, minus}, {minus, plus}, {plus, minus, plus, minus}, {minus, minus, plus, plus}, {plus, plus, plus, minus, minus, minus, plus, minus}} {
		nodes := checkTree(t, "zeros", tris, shape{impl.MaxDepth, 1})
		if got := leafOrder(nodes); !slices.IsSorted(got) {
			t.Errorf("the leaves are %v", got)
		}
		for _, n := range nodes {
			if n.Lo != (impl.Point{}) || n.Hi != point(1, 1, 1) {
				t.Errorf("%x", n)
			}
		}
	}
}

// TestBuildTreeOrdersFloatsOfAllKinds has two triangles whose least coordinates
// on the first axis are two floats: the least and the greatest ones, ones below
// the normal ones, ones beside each other.
func TestBuildTreeOrdersFloatsOfAllKinds(t *testing.T) {
	list := []uint32{
		0, signBit, 1, signBit | 1, 2, leastNormal - 1, leastNormal, signBit | leastNormal, 0x3f800000, 0x3f800001, 0xbf800000, 0xbf800001,
		greatestFloat - 1, greatestFloat, signBit | greatestFloat, signBit | (greatestFloat - 1),
	}
	at := func(x uint32) impl.Tri {
		return impl.Tri{A: impl.Point{X: x, Y: 1, Z: greatestFloat}, B: impl.Point{X: x, Y: signBit | greatestFloat}, C: impl.Point{X: x, Z: signBit | 1}}
	}
	for _, a := range list {
		for _, b := range list {
			tris := []impl.Tri{at(a), at(b)}
			nodes := checkTree(t, fmt.Sprintf("%#x and %#x", a, b), tris, shape{impl.MaxDepth, 1})
			want := []int{0, 1}
			if valueOf(b).minus(valueOf(a)).sign() < 0 {
				want = []int{1, 0}
			}
			if got := leafOrder(nodes); !slices.Equal(got, want) {
				t.Errorf("%#x and %#x: the leaves are %v", a, b, got)
			}
		}
	}
}

func TestBuildTreeOnTheGrid(t *testing.T) {
	var c chance
	for n := range impl.MaxTris + 1 {
		for _, grid := range []struct {
			limit    uint32
			exponent int
		}{{1, 0}, {3, -149}, {2, 125}, {1 << 23, -30}} {
			tris := c.scene(n, grid.limit, grid.exponent)
			for _, s := range shapes() {
				checkTree(t, fmt.Sprint(n, " on the grid"), tris, s)
			}
		}
	}
}

// TestBuildTreeOfAllKinds has corners from all over.
func TestBuildTreeOfAllKinds(t *testing.T) {
	points := chosenPoints()
	var c chance
	for i := range 200 {
		tris := make([]impl.Tri, c.below(impl.MaxTris+1))
		for k := range tris {
			at := func() impl.Point { return points[c.below(uint32(len(points)))] }
			tris[k] = impl.Tri{A: at(), B: otherZeros(at()), C: at()}
		}
		for _, s := range []shape{{impl.MaxDepth, 1}, {3, 2}, {0, 1}} {
			checkTree(t, fmt.Sprint("scene ", i), tris, s)
		}
	}
}

// TestP11 goes by the promise's words, not by the tree that the document
// describes.
func TestP11(t *testing.T) {
	var c chance
	for i := range 150 {
		tris := c.scene(int(c.below(impl.MaxTris+1)), 2, int(c.below(3))*130-149)
		for _, s := range shapes() {
			nodes, code := impl.BuildTree(tris, s.depth, s.leaf)
			if code != impl.CodeOK {
				t.Fatalf("scene %d, %v: code %d", i, s, code)
			}
			checkPromise11(t, fmt.Sprint("scene ", i, " ", s), treeCheck{s, tris, nodes})
		}
	}
}

func checkPromise11(t *testing.T, what string, c treeCheck) {
	t.Helper()
	count := make([]int, len(c.tris))
	var visit func(at, level int)
	visit = func(at, level int) {
		n := c.nodes[at]
		if n.Left == 0 && n.Right == 0 {
			if len(n.Tris) > c.leaf && level != c.depth {
				t.Errorf("%s: node %d has %d triangles at level %d", what, at, len(n.Tris), level)
			}
			for _, i := range n.Tris {
				count[i]++
				if lo, hi := bounds(c.tris[i]); !holdsBox(n.Lo, n.Hi, lo, hi) {
					t.Errorf("%s: node %d does not hold triangle %d", what, at, i)
				}
			}
			return
		}
		for _, below := range []int{n.Left, n.Right} {
			if below <= at || below >= len(c.nodes) || !holdsBox(n.Lo, n.Hi, c.nodes[below].Lo, c.nodes[below].Hi) {
				t.Fatalf("%s: node %d does not hold node %d", what, at, below)
			}
			visit(below, level+1)
		}
	}
	if len(c.nodes) > 0 {
		visit(0, 0)
	}
	for i, tri := range c.tris {
		if want := map[bool]int{false: 1}[exactFlat(tri)]; count[i] != want {
			t.Errorf("%s: triangle %d is in %d leaves, want %d", what, i, count[i], want)
		}
	}
}

// holdsBox goes by the values.
func holdsBox(lo, hi, low, high impl.Point) bool {
	outer, inner := [2]floats{floatsOf(lo), floatsOf(hi)}, [2]floats{floatsOf(low), floatsOf(high)}
	for axis := range 3 {
		if inner[0][axis] < outer[0][axis] || inner[1][axis] > outer[1][axis] || inner[0][axis] > inner[1][axis] {
			return false
		}
	}
	return true
}

func checkNoTree(t *testing.T, what string, tris []impl.Tri, s shape) {
	t.Helper()
	if nodes, code := impl.BuildTree(tris, s.depth, s.leaf); code != impl.CodeBad || len(nodes) != 0 {
		t.Errorf("%s, %v: %d nodes, code %d", what, s, len(nodes), code)
	}
}

func TestBuildTreeWantsItsBounds(t *testing.T) {
	full := slices.Repeat([]impl.Tri{level(1)}, impl.MaxTris)
	for _, tris := range [][]impl.Tri{nil, flats(), {level(1)}, full} {
		for _, s := range wrongShapes() {
			checkNoTree(t, fmt.Sprint(len(tris), " triangles"), tris, s)
		}
		for _, s := range shapes() {
			checkTree(t, fmt.Sprint(len(tris), " triangles"), tris, s)
			checkNoTree(t, "one more", append(slices.Clone(full), level(1)), s)
			checkNoTree(t, "one more, flat", append(slices.Clone(full), flats()[0]), s)
			checkNoTree(t, "many", slices.Repeat(full, 30), s)
		}
	}
	checkNoTree(t, "flat ones, one too many", slices.Repeat(flats()[:1], impl.MaxTris+1), shape{5, 1})
}

// wrongScenes have one float that is not finite, at every place of a triangle
// and of a list, also of a triangle that would be flat.
func wrongScenes() [][]impl.Tri {
	var all [][]impl.Tri
	for _, first := range []impl.Tri{level(1), flats()[0]} {
		for _, n := range []int{1, 3, impl.MaxTris} {
			for _, at := range []int{0, n / 2, n - 1} {
				for place := range 9 {
					for _, wrong := range wrongFloats() {
						tris := slices.Repeat([]impl.Tri{first}, n)
						corner := [3]*impl.Point{&tris[at].A, &tris[at].B, &tris[at].C}[place/3]
						*corner = with(*corner, place%3, wrong)
						all = append(all, tris)
					}
				}
			}
		}
	}
	return all
}

func TestBuildTreeWantsFiniteTriangles(t *testing.T) {
	for i, tris := range wrongScenes() {
		for _, s := range []shape{{0, 1}, {impl.MaxDepth, 1}, {3, impl.MaxTris}} {
			checkNoTree(t, fmt.Sprint("wrong scene ", i), tris, s)
		}
	}
}
