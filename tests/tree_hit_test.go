package tests

import (
	"fmt"
	"math"
	"slices"
	"testing"

	"loop.example/s01121/impl"
)

func TestP12ByHand(t *testing.T) {
	const most, least = math.MaxFloat32, math.SmallestNonzeroFloat32
	along := ray(0, 0, 0, 1, 0, 0)
	// The ray comes into the box of this one at once, and into it at the distance 9.
	slant := impl.Tri{A: point(0, -9, 1), B: point(0, -9, -1), C: point(10, 1, 0)}
	for _, c := range []struct {
		name string
		tris []impl.Tri
		r    impl.Ray
		want []int
	}{
		{"no triangle", nil, along, nil},
		{"flat ones only", flats(), ray(0, 0, 0, 1, 2, 3), nil},
		{"one", []impl.Tri{upright(4)}, along, []int{0}},
		{"one behind", []impl.Tri{upright(-4)}, along, nil},
		{"in order", []impl.Tri{upright(1), upright(2), upright(3)}, along, []int{0, 1, 2}},
		{"the other way round", []impl.Tri{upright(3), upright(2), upright(1)}, along, []int{2, 1, 0}},
		{"some behind", []impl.Tri{upright(3), upright(-2), upright(1), upright(-1), upright(2)}, along, []int{2, 4, 0}},
		{"flat ones in between", slices.Concat(flats(), []impl.Tri{upright(3)}, flats(), []impl.Tri{upright(2)}), along, []int{11, 5}},
		{"the right side is nearer", []impl.Tri{upright(-9), upright(-8), upright(3), upright(2), upright(7)}, along, []int{3, 2, 4}},
		{"backwards, the left side is farther", []impl.Tri{upright(-9), upright(-8), upright(-3), upright(7)}, ray(0, 0, 0, -2, 0, 0), []int{2, 1, 0}},
		{"equal ones", []impl.Tri{upright(5), upright(2), upright(2), upright(5), upright(2)}, along, []int{1, 2, 4, 0, 3}},
		{"equal ones from the other side", []impl.Tri{upright(5), upright(2), upright(2), upright(5), upright(2)}, ray(9, 0, 0, -3, 0, 0), []int{0, 3, 1, 2, 4}},
		{"equal at a common corner", []impl.Tri{upright(7), {A: point(4, 0, 0), B: point(8, 1, 0), C: point(8, 0, 1)}, {A: point(4, 0, 0), B: point(6, -1, 0), C: point(2, 0, -1)}}, along, []int{1, 2, 0}},
		{"equal at the start", []impl.Tri{upright(0), {A: point(-5, 0, 0), B: point(5, 0, 0), C: point(0, 5, 0)}, upright(0)}, along, []int{0, 1, 2}},
		{"a nearer one in a box that begins behind", []impl.Tri{slant, upright(5)}, along, []int{1, 0}},
		{"the same the other way round", []impl.Tri{upright(5), slant}, along, []int{0, 1}},
		{"a farther one in a box that begins before", []impl.Tri{upright(9.5), slant, upright(10)}, along, []int{1, 0, 2}},
		{"equal, the first in the box that begins behind", []impl.Tri{upright(9), slant}, along, []int{0, 1}},
		{"equal, the first in the box that begins before", []impl.Tri{slant, upright(9)}, along, []int{0, 1}},
		{"the least nearer", []impl.Tri{slant, upright(math.Nextafter32(9, 0))}, along, []int{1, 0}},
		{"the least farther", []impl.Tri{upright(math.Nextafter32(9, 10)), slant}, along, []int{1, 0}},
		{"the least floats", []impl.Tri{upright(3 * least), upright(2 * least), upright(least), upright(-least)}, ray(0, 0, 0, least, 0, 0), []int{2, 1, 0}},
		{"the greatest floats", []impl.Tri{upright(most), upright(beneath(most)), upright(-most), upright(least)}, ray(-most, 0, 0, least, 0, 0), []int{2, 3, 1, 0}},
		{"from the greatest to the least", []impl.Tri{upright(least), upright(0), upright(-least), upright(most)}, ray(most, 0, 0, -most, 0, 0), []int{3, 0, 1, 2}},
		{"past all of them", []impl.Tri{upright(1), upright(2), slant}, ray(0, 4, 0, 1, 0, 0), nil},
		{"between two of them", []impl.Tri{upright(1), upright(2)}, ray(1.5, 0, 0, 0, 1, 1), nil},
		{"through the box but past the triangle", []impl.Tri{upright(1), upright(2)}, ray(0, 2.5, 2.5, 1, 0, 0), nil},
	} {
		checkHits(t, c.name, c.tris, c.r, c.want)
		if want := exactHits(c.tris, c.r); !slices.Equal(want, c.want) {
			t.Errorf("%s: the fractions say %v", c.name, want)
		}
	}
}

// TestP12BoxesAtTheirEdges has triangles within the faces of their boxes, or
// with a corner in a corner of it, so that the ray has one point or one line of
// the box.
func TestP12BoxesAtTheirEdges(t *testing.T) {
	const least = math.SmallestNonzeroFloat32
	far := moved(50, 50, 50)
	floor := impl.Tri{A: point(0, 0, 0), B: point(4, 0, 0), C: point(0, 4, 0)}
	wall := impl.Tri{A: point(0, 0, 0), B: point(0, 0, 4), C: point(4, 0, 0)}
	leaning := impl.Tri{A: point(0, 0, 0), B: point(4, 0, 0), C: point(2, 4, 4)}
	tris := []impl.Tri{far, leaning, floor, wall, far}
	for _, c := range []struct {
		name string
		r    impl.Ray
		want []int
	}{
		{"along a face of two boxes", ray(-1, 0, 1, 1, 0, 0), []int{3}},
		{"along an edge of all boxes", ray(-1, 0, 0, 1, 0, 0), []int{1, 2, 3}},
		{"the least outside of it", ray(-1, -least, 0, 1, 0, 0), nil},
		{"through the common corner, to the far ones", ray(-1, -1, -1, 1, 1, 1), []int{1, 2, 3, 0, 4}},
		{"through the common corner only", ray(-1, 1, -2, 1, -1, 2), []int{1, 2, 3}},
		{"beside the common corner", ray(-1, beneath(1), -2, 1, -1, 2), nil},
		{"through the corner at the other end", ray(5, 1, 1, -1, -1, -1), []int{1, 2, 3}},
		{"within the plane of the floor", ray(1, -1, 0, 0, 1, 0), []int{1, 2, 3}},
		{"within the plane of the floor, past the wall", ray(1, 1, 0, 0, 1, 0), []int{2}},
		{"begins within all boxes", ray(2, 1, 0.5, 0, 0, 1), []int{1}},
		{"begins within all boxes and goes down", ray(2, 1, 1, 0, 0, -1), []int{1, 2}},
		{"begins on a triangle and goes away", ray(1, 1, 0, 0, 0, -1), []int{2}},
		{"begins within the box of all, towards the far ones", ray(9, 9, 9, 1, 1, 1), []int{0, 4}},
		{"across the wall", ray(1, -3, 1, 0, 3, 0), []int{3, 1}},
		{"across the wall from within", ray(1, 2, 1, 0, -1, 0), []int{1, 3}},
	} {
		if want := exactHits(tris, c.r); !slices.Equal(want, c.want) {
			t.Errorf("%s: the fractions say %v, not %v", c.name, want, c.want)
		}
		checkHits(t, c.name, tris, c.r, c.want)
		zeros := impl.Ray{O: otherZeros(c.r.O), D: otherZeros(c.r.D)}
		checkHits(t, c.name+", other zeros", tris, zeros, c.want)
	}
}

// TestP12FullScenes has as many triangles as there may be, all met.
func TestP12FullScenes(t *testing.T) {
	var up, down, twice []impl.Tri
	for i := range impl.MaxTris {
		up, down, twice = append(up, upright(float32(i))), append(down, upright(float32(-i))), append(twice, upright(float32(i/2)))
	}
	for _, tris := range [][]impl.Tri{up, down, twice, slices.Repeat(up[3:4], impl.MaxTris)} {
		for _, r := range []impl.Ray{ray(-99, 0, 0, 1, 0, 0), ray(99, 0, 0, -1, 0, 0), ray(0, 0, 0, 1, 0, 0), ray(0.5, 0, 0, -1, 0, 0), ray(-99, -1, -1, 1, 0, 0)} {
			checkExactHits(t, "a full scene", tris, r)
		}
	}
}

func TestP12OnTheGrid(t *testing.T) {
	var c chance
	count := map[int]int{}
	for i := range 500 {
		e := int(c.below(3))*130 - 149
		tris, r := c.scene(int(c.below(impl.MaxTris+1)), 1+c.below(3), e), c.gridRay(1+c.below(3), e)
		want := checkExactHits(t, fmt.Sprint("scene ", i), tris, r)
		count[min(len(want), 3)]++
	}
	if count[0] < 30 || count[1] < 15 || count[2] < 15 || count[3] < 60 {
		t.Errorf("too few of a kind: %v", count)
	}
}

// TestP12OneLastBitApart has triangles that a ray meets at a common corner, and
// such ones moved by one float.
func TestP12OneLastBitApart(t *testing.T) {
	var c chance
	equal, apart := 0, 0
	for i := range 60 {
		corner, o := c.grid(20, 0), c.grid(30, 0)
		v := floatsOf(corner).minus(floatsOf(o))
		r := impl.Ray{O: o, D: point(float32(v[0]), float32(v[1]), float32(v[2]))}
		if isZeroVector(r.D) {
			continue
		}
		var tris []impl.Tri
		for len(tris) < 12 {
			tri := impl.Tri{A: c.grid(20, 0), B: corner, C: c.grid(20, 0)}
			tris = append(tris, tri, impl.Tri{A: beside(tri.A, int(c.below(3)), 1), B: corner, C: tri.C})
		}
		if len(checkExactHits(t, fmt.Sprint("one corner ", i), tris, r)) > 1 {
			equal++
		}
		r.O = beside(r.O, int(c.below(3)), 1-2*int(c.below(2)))
		if len(checkExactHits(t, fmt.Sprint("beside it ", i), tris, r)) > 1 {
			apart++
		}
	}
	if equal < 30 || apart < 15 {
		t.Errorf("too few of a kind: %d and %d", equal, apart)
	}
}

// TestP12OrderThatFloat64CannotTell has the two planes of
// TestP8OrderThatFloat64CannotTell among others.
func TestP12OrderThatFloat64CannotTell(t *testing.T) {
	for _, n := range []int64{0xabcdee, 0xfffff1, 0x800009, 0x912347} {
		i, j := coprime(n+3, n)
		k, l := coprime(n+1, n+2)
		high := impl.Tri{B: point(float32(n), 0, float32(i)), C: point(0, float32(n+1), float32(l))}
		low := impl.Tri{B: point(float32(n+3), 0, float32(j)), C: point(0, float32(n+2), float32(k))}
		r := ray(float32(n>>2), float32(n>>2), 1<<26, 0, 0, -1)
		checkHits(t, "two planes", []impl.Tri{high, low}, r, []int{0, 1})
		checkHits(t, "two planes", []impl.Tri{low, high}, r, []int{1, 0})
		checkHits(t, "two planes, each twice", []impl.Tri{low, high, low, high}, r, []int{1, 3, 0, 2})
	}
}

// TestP12WhereFloat64Rounds has corners of very different sizes.
func TestP12WhereFloat64Rounds(t *testing.T) {
	var c chance
	for gap := 20; gap <= 110; gap += 10 {
		for range 5 {
			l := c.line(gap)
			var tris []impl.Tri
			for range 5 {
				tris = append(tris,
					impl.Tri{A: l[0], B: c.spread(gap), C: c.spread(gap)},
					impl.Tri{A: l[1], B: c.spread(gap), C: l[2]},
					impl.Tri{A: c.spread(gap), B: c.spread(gap), C: c.spread(gap)})
			}
			for _, r := range []impl.Ray{{O: l[0], D: l[1]}, {O: l[1], D: l[0]}, {O: c.spread(gap), D: l[2]}, {O: c.spread(gap), D: c.spread(gap)}} {
				if !isZeroVector(r.D) {
					checkExactHits(t, fmt.Sprint("gap ", gap), tris, r)
				}
			}
		}
	}
}

// TestP12OfAllKinds has the least and the greatest floats, and all in between.
func TestP12OfAllKinds(t *testing.T) {
	points := chosenPoints()
	var c chance
	at := func() impl.Point { return points[c.below(uint32(len(points)))] }
	for i := range 150 {
		tris := make([]impl.Tri, c.below(impl.MaxTris+1))
		for k := range tris {
			tris[k] = impl.Tri{A: at(), B: at(), C: at()}
		}
		if r := (impl.Ray{O: at(), D: at()}); !isZeroVector(r.D) {
			checkExactHits(t, fmt.Sprint("scene ", i), tris, r)
		}
	}
}

// TestP12EveryDepthAndLeaf leaves none out.
func TestP12EveryDepthAndLeaf(t *testing.T) {
	var c chance
	tris := c.scene(impl.MaxTris, 2, 0)
	for _, r := range []impl.Ray{ray(-1, -0.5, 0.25, 2, 1, 1), ray(0, 0, 0, 1, 1, 1), ray(2, 2, 3, 1, 0, 0), ray(3, 0.5, 0.5, -2, 0, 0)} {
		want := -1
		if all := exactHits(tris, r); len(all) > 0 {
			want = all[0]
		}
		for depth := range impl.MaxDepth + 1 {
			for leaf := 1; leaf <= impl.MaxTris; leaf++ {
				if id, code := impl.FirstHit(tris, r, depth, leaf); code != impl.CodeOK || id != want {
					t.Errorf("%x, depth %d, leaf %d: %d, code %d, want %d", r, depth, leaf, id, code, want)
				}
			}
		}
	}
}

// checkNoHits wants CodeBad from both.
func checkNoHits(t *testing.T, what string, tris []impl.Tri, r impl.Ray) {
	t.Helper()
	if all, code := impl.AllHits(tris, r); code != impl.CodeBad || len(all) != 0 {
		t.Errorf("%s: AllHits is %v, code %d", what, all, code)
	}
	for _, s := range []shape{{0, 1}, {impl.MaxDepth, 1}, {3, impl.MaxTris}} {
		checkNoFirst(t, what, tris, r, s)
	}
}

func checkNoFirst(t *testing.T, what string, tris []impl.Tri, r impl.Ray, s shape) {
	t.Helper()
	if id, code := impl.FirstHit(tris, r, s.depth, s.leaf); code != impl.CodeBad || id != 0 {
		t.Errorf("%s, %v: FirstHit is %d, code %d", what, s, id, code)
	}
}

func TestHitsOfTreesWantFiniteTriangles(t *testing.T) {
	for i, tris := range wrongScenes() {
		checkNoHits(t, fmt.Sprint("wrong scene ", i), tris, ray(1, 1, 5, 0, 0, -1))
	}
}

func TestHitsOfTreesWantAProperRay(t *testing.T) {
	scenes := [][]impl.Tri{nil, flats(), {level(0)}, slices.Repeat([]impl.Tri{level(1)}, impl.MaxTris)}
	for i, tris := range scenes {
		for place := range 6 {
			for _, wrong := range wrongFloats() {
				p := [2]impl.Point{point(1, 1, 5), point(0, 0, -1)}
				p[place/3] = with(p[place/3], place%3, wrong)
				checkNoHits(t, fmt.Sprintf("scene %d, %#x at %d", i, wrong, place), tris, impl.Ray{O: p[0], D: p[1]})
			}
		}
		for signs := range uint32(8) {
			zero := impl.Point{X: signs << 31, Y: signs >> 1 << 31, Z: signs >> 2 << 31}
			checkNoHits(t, fmt.Sprintf("scene %d, a direction of zeros", i), tris, impl.Ray{O: point(1, 1, 0), D: zero})
		}
	}
}

func TestHitsOfTreesWantTheirBounds(t *testing.T) {
	down := ray(1, 1, 5, 0, 0, -1)
	full := slices.Repeat([]impl.Tri{level(1)}, impl.MaxTris)
	for _, tris := range [][]impl.Tri{nil, flats(), {level(1)}, full} {
		for _, s := range wrongShapes() {
			checkNoFirst(t, fmt.Sprint(len(tris), " triangles"), tris, down, s)
		}
	}
	checkExactHits(t, "a full list", full, down)
	checkNoHits(t, "one more", append(slices.Clone(full), level(1)), down)
	checkNoHits(t, "one more, flat", append(slices.Clone(full), flats()[0]), down)
	checkNoHits(t, "flat ones, one too many", slices.Repeat(flats()[:1], impl.MaxTris+1), down)
	checkNoHits(t, "many", slices.Repeat(full, 30), down)
}
