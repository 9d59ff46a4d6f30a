package tests

import (
	"fmt"
	"math"
	"math/big"
	"testing"

	"loop.example/s01121/impl"
)

// missed stands where a distance would.
const missed = -1

// over is the fraction, or nil if it was missed.
func over(num, den int64) *big.Rat {
	if num == missed {
		return nil
	}
	return big.NewRat(num, den)
}

func TestP7AcrossThePlane(t *testing.T) {
	const most, least = math.MaxFloat32, math.SmallestNonzeroFloat32
	above, below := math.Nextafter32(1, 2), math.Nextafter32(1, 0)
	for _, c := range []struct {
		name     string
		r        impl.Ray
		num, den int64
	}{
		{"through the inside", ray(1, 1, 5, 0, 0, -1), 5, 1},
		{"through the inside from below", ray(1, 1, -5, 0, 0, 1), 5, 1},
		{"slanting", ray(-3, 0, 4, 4, 1, -4), 1, 1},
		{"through an edge", ray(2, 0, 1, 0, 0, -1), 1, 1},
		{"through another edge", ray(0, 2, 1, 0, 0, -1), 1, 1},
		{"through the slanting edge", ray(1, 3, 1, 0, 0, -1), 1, 1},
		{"through a corner", ray(0, 0, 1, 0, 0, -1), 1, 1},
		{"through another corner", ray(4, 0, 1, 0, 0, -1), 1, 1},
		{"through the last corner", ray(3, 5, 1, -3, -1, -1), 1, 1},
		{"beside an edge", ray(2, -least, 1, 0, 0, -1), missed, 1},
		{"inside of that edge", ray(2, least, 1, 0, 0, -1), 1, 1},
		{"beside another edge", ray(-least, 2, 1, 0, 0, -1), missed, 1},
		{"beside the slanting edge", ray(above, 3, 1, 0, 0, -1), missed, 1},
		{"inside of the slanting edge", ray(below, 3, 1, 0, 0, -1), 1, 1},
		{"beside a corner", ray(-least, -least, 1, 0, 0, -1), missed, 1},
		{"beside a corner, along the edge", ray(0, -least, 1, 0, 0, -1), missed, 1},
		{"beside another corner", ray(math.Nextafter32(4, 5), 0, 1, 0, 0, -1), missed, 1},
		{"inside of another corner", ray(math.Nextafter32(4, 0), 0, 1, 0, 0, -1), 1, 1},
		{"beside a corner by its direction", ray(3, 5, 1, -3, -below, -1), missed, 1},
		{"far from it", ray(5, 5, 1, 0, 0, -1), missed, 1},
		{"begins inside", ray(1, 1, 0, 0, 0, 1), 0, 1},
		{"begins inside, the other way", ray(1, 1, 0, 3, 3, -1), 0, 1},
		{"begins on an edge", ray(2, 2, 0, 1, 1, 1), 0, 1},
		{"begins on a corner", ray(4, 0, 0, 1, -1, 1), 0, 1},
		{"begins in the plane beside it", ray(5, 5, 0, 0, 0, 1), missed, 1},
		{"begins in the plane, the least beside an edge", ray(2, -least, 0, 0, 1, 1), missed, 1},
		{"points away", ray(1, 1, 5, 0, 0, 1), missed, 1},
		{"points away from an edge", ray(2, 2, 5, 0, 0, 1), missed, 1},
		{"points away from below", ray(1, 1, -5, 0, 0, -1), missed, 1},
		{"the least above, and away", ray(1, 1, least, 0, 0, 1), missed, 1},
		{"the least above", ray(1, 1, least, 0, 0, -least), 1, 1},
		{"the longest direction", ray(1, 1, most, 0, 0, -most), 1, 1},
		{"parallel to the plane", ray(1, 1, 1, 1, 0, 0), missed, 1},
		{"parallel, the least above", ray(1, 1, least, 1, 1, 0), missed, 1},
		{"nearly parallel", ray(-1, 1, 1, 2, 0, -1), 1, 1},
	} {
		checkDistance(t, c.name, level(0), c.r, over(c.num, c.den))
		checkHit(t, c.name, level(0), c.r)
	}
}

func TestP7WithinThePlane(t *testing.T) {
	const most, least = math.MaxFloat32, math.SmallestNonzeroFloat32
	for _, c := range []struct {
		name     string
		r        impl.Ray
		num, den int64
	}{
		{"through it", ray(-1, 1, 0, 1, 0, 0), 1, 1},
		{"through it, slanting", ray(-2, 3, 0, 2, -1, 0), 1, 1},
		{"through it from the slanting edge", ray(5, 5, 0, -1, -1, 0), 3, 1},
		{"along an edge", ray(-2, 0, 0, 1, 0, 0), 2, 1},
		{"along an edge from its other end", ray(5, 0, 0, -1, 0, 0), 1, 1},
		{"along an edge from its middle", ray(2, 0, 0, 1, 0, 0), 0, 1},
		{"along the slanting edge", ray(-1, 5, 0, 2, -2, 0), 1, 2},
		{"along the slanting edge, away", ray(-1, 5, 0, -2, 2, 0), missed, 1},
		{"touches a corner", ray(-1, 4, 0, 1, 0, 0), 1, 1},
		{"touches a corner, slanting", ray(3, -1, 0, 3, 3, 0), 1, 3},
		{"touches the corner at zero", ray(-1, 1, 0, 1, -1, 0), 1, 1},
		{"begins inside", ray(1, 1, 0, 1, 0, 0), 0, 1},
		{"begins on an edge and goes inside", ray(0, 1, 0, 1, 0, 0), 0, 1},
		{"begins on an edge and goes away", ray(0, 1, 0, -1, 0, 0), 0, 1},
		{"begins on a corner and goes away", ray(4, 0, 0, 1, 0, 0), 0, 1},
		{"begins on a corner and goes along", ray(4, 0, 0, -1, 1, 0), 0, 1},
		{"beside it", ray(-1, 5, 0, 1, 0, 0), missed, 1},
		{"beside an edge, the least", ray(-1, -least, 0, 1, 0, 0), missed, 1},
		{"within an edge, the least", ray(-1, least, 0, 1, 0, 0), 1, 1},
		{"beside a corner, the least", ray(-1, math.Nextafter32(4, 5), 0, 1, 0, 0), missed, 1},
		{"parallel to the slanting edge, outside", ray(-1, 6, 0, 1, -1, 0), missed, 1},
		{"behind it", ray(5, 0, 0, 1, 0, 0), missed, 1},
		{"behind it, slanting", ray(-1, -1, 0, -1, -1, 0), missed, 1},
		{"from afar", ray(-most, 1, 0, most, 0, 0), 1, 1},
		{"the shortest direction", ray(-least, 1, 0, least, 0, 0), 1, 1},
	} {
		checkDistance(t, c.name, level(0), c.r, over(c.num, c.den))
		checkHit(t, c.name, level(0), c.r)
		lifted := c.r
		lifted.O.Z = 1
		checkDistance(t, c.name+", above the plane", level(0), lifted, nil)
	}
}

func TestP7FlatTrianglesAreNeverHit(t *testing.T) {
	const least = math.SmallestNonzeroFloat32
	o, x := point(0, 0, 0), point(1, 1, 0)
	rays := []impl.Ray{
		ray(1, 1, 1, 0, 0, -1), ray(0, 0, 1, 0, 0, -1), ray(1, 1, 0, 1, 1, 0), ray(0, 0, 0, 1, 1, 0), ray(-1, -1, 0, 1, 1, 0),
		ray(0, 0, 0, 0, 0, 1), ray(2, 0, 0, -1, 1, 0), ray(1, 1, 0, least, 0, 0),
	}
	for i, flat := range []impl.Tri{
		{A: o, B: x, C: point(2, 2, 0)}, {A: o, B: o, C: x}, {A: x, B: x, C: x}, {A: o, B: otherZeros(o), C: x}, {}, {A: point(-1, -1, 0), B: x, C: x},
	} {
		for j, r := range rays {
			checkDistance(t, fmt.Sprint("flat ", i, j), flat, r, nil)
		}
	}
	if hit, code := impl.Hits(impl.Tri{A: o, B: x, C: beside(point(2, 2, 0), 0, 1)}, rays[0]); code != impl.CodeOK || !hit {
		t.Errorf("a triangle that is no longer flat: %v, code %d", hit, code)
	}
}

// TestP7OnTheGrid has so few points to choose from that nearly everything lies
// on a corner, an edge or in the plane of another thing at times.
func TestP7OnTheGrid(t *testing.T) {
	var c chance
	met := map[bool]int{}
	for _, e := range []int{0, -149, 125} {
		for _, limit := range []uint32{1, 2, 5} {
			for range 300 {
				tri, r := c.gridTri(limit, e), c.gridRay(limit, e)
				checkHit(t, "on the grid", tri, r)
				met[exactDistance(tri, r) != nil]++
			}
		}
	}
	if met[true] < 200 || met[false] < 200 {
		t.Errorf("too few of a kind: %v", met)
	}
}

func TestP7OnTheGridWithinThePlane(t *testing.T) {
	var c chance
	for _, e := range []int{0, -149, 125} {
		for axis := range 3 {
			for range 250 {
				tri, r := c.gridTri(3, e), c.gridRay(3, e)
				height := c.float(2, e)
				for _, p := range []*impl.Point{&tri.A, &tri.B, &tri.C, &r.O} {
					*p = with(*p, axis, math.Float32bits(height))
				}
				r.D = with(r.D, axis, 0)
				if !isZeroVector(r.D) {
					checkHit(t, "in the plane", tri, r)
				}
			}
		}
	}
}

// TestP7WithinASlantingPlane has triangle and ray in one plane that no two axes
// span, then the ray's start one float beside it.
func TestP7WithinASlantingPlane(t *testing.T) {
	var c chance
	for _, e := range []int{-149, -20, 0, 100} {
		for range 60 {
			p := inPlane(&c, e, 3)
			tri, o := impl.Tri{A: p[0], B: p[1], C: p[2]}, p[3]
			for _, target := range p[:3] {
				from, to := floatsOf(o), floatsOf(target)
				v := to.minus(from)
				d := point(float32(v[0]), float32(v[1]), float32(v[2]))
				if isZeroVector(d) {
					continue
				}
				checkHit(t, "towards a corner", tri, impl.Ray{O: o, D: d})
				checkHit(t, "away from a corner", tri, impl.Ray{O: target, D: d})
				axis, n := int(c.below(3)), 2*int(c.below(2))-1
				checkHit(t, "beside the plane", tri, impl.Ray{O: beside(o, axis, n), D: d})
			}
		}
	}
}

func TestP7OfAllKinds(t *testing.T) {
	points := chosenPoints()
	var c chance
	for i := range 2500 {
		at := func() impl.Point { return points[c.below(uint32(len(points)))] }
		tri, r := impl.Tri{A: at(), B: at(), C: at()}, impl.Ray{O: at(), D: at()}
		if !isZeroVector(r.D) {
			checkHit(t, fmt.Sprint("all kinds ", i), tri, r)
		}
	}
}

// TestP7OneLastBitBeside aims at a point of an edge or at a corner, then moves
// the start, the direction and the corner by one float.
func TestP7OneLastBitBeside(t *testing.T) {
	var c chance
	met := map[bool]int{}
	check := func(tri impl.Tri, r impl.Ray) {
		checkHit(t, "one last bit beside", tri, r)
		met[exactDistance(tri, r) != nil]++
	}
	for range 40 {
		tri, o := c.gridTri(9, 0), c.grid(40, 0)
		a, b, from := floatsOf(tri.A), floatsOf(tri.B), floatsOf(o)
		part := float64(c.below(5)) / 4
		var d floats
		for i := range d {
			d[i] = a[i] + part*(b[i]-a[i]) - from[i]
		}
		r := impl.Ray{O: o, D: point(float32(d[0]), float32(d[1]), float32(d[2]))}
		if isZeroVector(r.D) || exactFlat(tri) {
			continue
		}
		checkDistance(t, "on the edge", tri, impl.Ray{O: o, D: r.D}, exactDistance(tri, r))
		if hit, _ := impl.Hits(tri, r); !hit {
			t.Errorf("%x aims at an edge of %x", r, tri)
		}
		for axis := range 3 {
			for _, n := range []int{-1, 1} {
				check(tri, impl.Ray{O: beside(o, axis, n), D: r.D})
				check(tri, impl.Ray{O: o, D: beside(r.D, axis, n)})
				check(impl.Tri{A: beside(tri.A, axis, n), B: tri.B, C: tri.C}, r)
			}
		}
	}
	if met[true] < 100 || met[false] < 100 {
		t.Errorf("too few of a kind: %v", met)
	}
}

// fivePlaces are a triangle and a ray that meets it.
func fivePlaces() [5]impl.Point {
	return [5]impl.Point{point(0, 0, 0), point(4, 0, 0), point(0, 4, 0), point(1, 1, 3), point(0, 0, -1)}
}

func TestHitsWantsAFiniteTriangleAndAProperRay(t *testing.T) {
	check := func(what string, p [5]impl.Point) {
		tri, r := impl.Tri{A: p[0], B: p[1], C: p[2]}, impl.Ray{O: p[3], D: p[4]}
		if hit, code := impl.Hits(tri, r); code != impl.CodeBad || hit {
			t.Errorf("%s: Hits is %v, code %d", what, hit, code)
		}
		if num, den, code := impl.HitDistance(tri, r); code != impl.CodeBad || !isZero(num) || !isZero(den) {
			t.Errorf("%s: HitDistance is %v and %v, code %d", what, num, den, code)
		}
		good := level(1)
		for _, pair := range [][2]impl.Tri{{tri, good}, {good, tri}} {
			if sign, code := impl.HitOrder(pair[0], pair[1], r); code != impl.CodeBad || sign != 0 {
				t.Errorf("%s: HitOrder is %d, code %d", what, sign, code)
			}
		}
	}
	for place := range 15 {
		for _, wrong := range wrongFloats() {
			p := fivePlaces()
			p[place/3] = with(p[place/3], place%3, wrong)
			check(fmt.Sprintf("%#x at %d", wrong, place), p)
		}
	}
	for signs := range uint32(8) {
		p := fivePlaces()
		p[4] = impl.Point{X: signs << 31, Y: signs >> 1 << 31, Z: signs >> 2 << 31}
		check(fmt.Sprintf("a direction of zeros %x", p[4]), p)
	}
}
