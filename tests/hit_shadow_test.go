package tests

import (
	"fmt"
	"math"
	"math/big"
	"testing"

	"loop.example/s01121/impl"
)

// exactShadow tells whether t is met between the hit's point and the light, and
// whether the ray meets hit.
func exactShadow(t impl.Tri, r impl.Ray, hit impl.Tri, light impl.Point) (dark, met bool) {
	s := exactDistance(hit, r)
	if s == nil {
		return false, false
	}
	p := spotOf(r.O).along(spotOf(r.D), s)
	d := spotOf(light).minus(p)
	if isNowhere(d) {
		return false, true
	}
	from, to := chord(t, p, d)
	if from == nil {
		return false, true
	}
	// The middle of what the chord has in common with 0 to 1, if anything.
	zero, one := new(big.Rat), big.NewRat(1, 1)
	if from.Sign() > 0 {
		zero = from
	}
	if to.Cmp(one) < 0 {
		one = to
	}
	middle := new(big.Rat).Add(zero, one)
	middle.Mul(middle, big.NewRat(1, 2))
	return zero.Cmp(one) <= 0 && middle.Sign() > 0 && middle.Cmp(big.NewRat(1, 1)) < 0, true
}

// checkShadow asks for every order of the corners of both triangles.
func checkShadow(t *testing.T, what string, tri impl.Tri, r impl.Ray, hit impl.Tri, light impl.Point, want bool) {
	t.Helper()
	for i := range 6 {
		a, b := orders(tri)[i], orders(hit)[(i*i+i/2)%6]
		if dark, code := impl.Shadows(a, r, b, light); code != impl.CodeOK || dark != want {
			t.Errorf("%s: Shadows of %x, %x, %x and %x is %v, code %d, want %v", what, a, r, b, light, dark, code, want)
		}
	}
	zeros := impl.Ray{O: otherZeros(r.O), D: otherZeros(r.D)}
	a, b := impl.Tri{A: otherZeros(tri.A), B: tri.B, C: otherZeros(tri.C)}, impl.Tri{A: hit.A, B: otherZeros(hit.B), C: hit.C}
	if dark, code := impl.Shadows(a, zeros, b, otherZeros(light)); code != impl.CodeOK || dark != want {
		t.Errorf("%s, other zeros: %v, code %d, want %v", what, dark, code, want)
	}
}

// checkShadowExactly takes the library's fractions for it, and answers whether
// the ray meets hit.
func checkShadowExactly(t *testing.T, what string, tri impl.Tri, r impl.Ray, hit impl.Tri, light impl.Point) (dark, met bool) {
	t.Helper()
	dark, met = exactShadow(tri, r, hit, light)
	if met {
		checkShadow(t, what, tri, r, hit, light, dark)
	} else if got, code := impl.Shadows(tri, r, hit, light); code != impl.CodeBad || got {
		t.Errorf("%s: %x does not meet %x: %v, code %d", what, r, hit, got, code)
	}
	return dark, met
}

func TestP9ByHand(t *testing.T) {
	const most, least = math.MaxFloat32, math.SmallestNonzeroFloat32
	// The ray meets the triangle of height 0 at (1, 1, 0).
	r, hit := ray(1, 1, 5, 0, 0, -1), level(0)
	upright := impl.Tri{A: point(2, 0, -1), B: point(2, 4, -1), C: point(2, 0, 9)}
	lying := impl.Tri{A: point(3, 1, 0), B: point(5, 1, 0), C: point(5, 3, 0)}
	for _, c := range []struct {
		name  string
		tri   impl.Tri
		light impl.Point
		want  bool
	}{
		{"between", level(2), point(1, 1, 4), true},
		{"between, from below", level(-2), point(1, 1, -4), true},
		{"between, at an edge", level(2), point(1, -1, 4), true},
		{"between, beside an edge", level(2), point(1, beneath(-1), 4), false},
		{"between, at a corner", level(2), point(-1, -1, 4), true},
		{"between, beside a corner", level(2), point(-1, beneath(-1), 4), false},
		{"behind the light", level(2), point(1, 1, 1), false},
		{"behind the hit's point", level(-1), point(1, 1, 4), false},
		{"beside", level(2), point(9, 9, 4), false},
		{"parallel", level(2), point(3, 0, 0), false},
		{"holds the light", level(2), point(1, 1, 2), false},
		{"holds the light at its corner", level(2), point(0, 0, 2), false},
		{"the least behind the light", level(2), point(1, 1, beneath(2)), false},
		{"the least before the light", level(2), point(1, 1, -beneath(-2)), true},
		{"the least above the hit's point", level(least), point(1, 1, most), true},
		{"the hit itself", hit, point(1, 1, 4), false},
		{"the hit itself, another order", orders(hit)[3], point(0, 0, 9), false},
		{"the hit itself, the light in its plane", hit, point(3, 1, 0), true},
		{"the hit itself, the light far in its plane", hit, point(-most, -most, 0), true},
		{"in the hit's plane, the light above", lying, point(4, 2, 7), false},
		{"in the hit's plane, touched at the light", lying, point(3, 1, 0), false},
		{"in the hit's plane, touched before the light", lying, point(math.Nextafter32(3, 4), 1, 0), true},
		{"in the hit's plane, along its edge", lying, point(9, 1, 0), true},
		{"in the hit's plane, at its corner", lying, point(9, 5, 0), true},
		{"in the hit's plane, beside its corner", lying, point(9, math.Nextafter32(5, 6), 0), false},
		{"in the hit's plane, behind the light", lying, point(2, 1, 0), false},
		{"in the hit's plane, behind the hit's point", lying, point(-9, 1, 0), false},
		{"in the hit's plane, it begins at the hit's point", impl.Tri{A: point(1, 1, 0), B: point(1, 3, 0), C: point(-2, 3, 0)}, point(9, 1, 0), false},
		{"in the hit's plane, it goes on from the hit's point", impl.Tri{A: point(1, 1, 0), B: point(3, 1, 0), C: point(1, 3, 0)}, point(9, 1, 0), true},
		{"holds the hit's point at its corner", impl.Tri{A: point(1, 1, 0), B: point(1, 3, 5), C: point(-2, 3, 5)}, point(9, 1, 3), false},
		{"holds the hit's point inside", impl.Tri{A: point(1, 0, -5), B: point(1, 5, 0), C: point(1, 0, 5)}, point(9, 1, 3), false},
		{"holds the hit's point, the light in its plane", impl.Tri{A: point(1, 0, -5), B: point(1, 5, 0), C: point(1, 0, 5)}, point(1, 1, 9), true},
		{"holds both", impl.Tri{A: point(1, 0, -50), B: point(1, 50, 0), C: point(1, 0, 50)}, point(1, 2, 3), true},
		{"holds both as corners", impl.Tri{A: point(1, 1, 0), B: point(1, 9, 7), C: point(1, 1, 4)}, point(1, 1, 4), true},
		{"upright, between", upright, point(3, 1, 0), true},
		{"upright, holds the light", upright, point(2, 1, 0), false},
		{"upright, behind the hit's point", upright, point(0, 1, 0), false},
		{"its plane holds the light and it lies beside", upright, point(2, 1, 9.5), false},
		{"its plane holds the light and the hit's point", impl.Tri{A: point(5, 1, 0), B: point(5, 1, 4), C: point(9, 1, 0)}, point(9, 1, 9), false},
		{"its plane holds both and its corner lies between", impl.Tri{A: point(5, 1, 0), B: point(5, 1, 4), C: point(9, 1, 0)}, point(9, 1, 8), true},
		{"its plane holds both and it lies between", impl.Tri{A: point(5, 1, 0), B: point(5, 1, 4), C: point(9, 1, 0)}, point(9, 1, 7), true},
		{"the light is the hit's point", upright, point(1, 1, 0), false},
		{"the light is the hit's point, by the hit", hit, point(1, 1, 0), false},
		{"the light is the hit's point, at a corner", impl.Tri{A: point(1, 1, 0), B: point(1, 3, 5), C: point(-2, 3, 5)}, point(1, 1, 0), false},
		{"flat and between", impl.Tri{A: point(0, 1, 2), B: point(1, 1, 2), C: point(2, 1, 2)}, point(1, 1, 4), false},
		{"flat and along", impl.Tri{A: point(1, 1, 1), B: point(1, 1, 2), C: point(1, 1, 3)}, point(1, 1, 4), false},
		{"a point between", impl.Tri{A: point(1, 1, 2), B: point(1, 1, 2), C: point(1, 1, 2)}, point(1, 1, 4), false},
	} {
		checkShadow(t, c.name, c.tri, r, hit, c.light, c.want)
		checkShadowExactly(t, c.name, c.tri, r, hit, c.light)
	}
}

// beneath is the next float further down.
func beneath(x float32) float32 {
	return math.Nextafter32(x, -math.MaxFloat32)
}

// TestP9PointsThatNoFloatHolds has the hit's point at a third: (1/3, 1/3, 0).
// With the light at (0, 0, 3) the way to it is at (2/9, 2/9, 1) at its third.
func TestP9PointsThatNoFloatHolds(t *testing.T) {
	r, hit, light := ray(0, 0, 1, 1, 1, -3), level(0), point(0, 0, 3)
	edge := impl.Tri{A: point(0, 0, 1), B: point(1, 1, 1), C: point(1, -1, 1)}
	plane := impl.Tri{A: point(0, 0, 1), B: point(2, 2, 1), C: point(1, 1, 2)}
	corner := impl.Tri{A: point(-1, -1, 3), B: point(1, 1, 0), C: point(5, 1, 1)}
	for _, c := range []struct {
		name string
		tri  impl.Tri
		want bool
	}{
		{"an edge through the way", edge, true},
		{"the edge one last bit beside", impl.Tri{A: edge.A, B: beside(edge.B, 1, -1), C: edge.C}, false},
		{"the edge one last bit over", impl.Tri{A: edge.A, B: beside(edge.B, 1, 1), C: edge.C}, true},
		{"the edge's other end beside", impl.Tri{A: beside(edge.A, 1, -1), B: edge.B, C: edge.C}, false},
		{"the edge's other end over", impl.Tri{A: beside(edge.A, 0, -1), B: edge.B, C: edge.C}, true},
		{"in one plane with the way", plane, true},
		{"in one plane, all to one side", impl.Tri{A: point(1, 1, 0), B: point(1, 1, 3), C: point(2, 2, 0)}, false},
		{"in one plane, one last bit out of it", impl.Tri{A: plane.A, B: beside(plane.B, 0, 1), C: beside(plane.C, 0, 1)}, false},
		{"an edge across the way", corner, true},
		{"the hit itself", hit, false},
		{"the hit's plane, the light's side", level(beneath(3)), true},
	} {
		checkShadowExactly(t, c.name, c.tri, r, hit, light)
		checkShadow(t, c.name, c.tri, r, hit, light, c.want)
	}
}

func TestP9OnTheGrid(t *testing.T) {
	var c chance
	count := map[[2]bool]int{}
	for _, e := range []int{0, -149, 125} {
		for _, limit := range []uint32{1, 2, 4} {
			for range 250 {
				tri, r, hit, light := c.gridTri(limit, e), c.gridRay(limit, e), c.gridTri(limit, e), c.grid(limit, e)
				dark, met := checkShadowExactly(t, "on the grid", tri, r, hit, light)
				count[[2]bool{dark, met}]++
			}
		}
	}
	if count[[2]bool{true, true}] < 20 || count[[2]bool{false, true}] < 100 {
		t.Errorf("too few of a kind: %v", count)
	}
}

// TestP9OnePlane has both triangles, the ray and the light in one plane, then
// the light one float beside it.
func TestP9OnePlane(t *testing.T) {
	var c chance
	count := map[bool]int{}
	for axis := range 3 {
		for range 500 {
			tri, r, hit, light := c.gridTri(3, 0), c.gridRay(3, 0), c.gridTri(3, 0), c.grid(3, 0)
			for _, p := range []*impl.Point{&tri.A, &tri.B, &tri.C, &hit.A, &hit.B, &hit.C, &r.O, &light} {
				*p = with(*p, axis, math.Float32bits(-2))
			}
			r.D = with(r.D, axis, 0)
			if isZeroVector(r.D) {
				continue
			}
			dark, met := checkShadowExactly(t, "one plane", tri, r, hit, light)
			count[dark && met]++
			checkShadowExactly(t, "beside the plane", tri, r, hit, beside(light, axis, 1))
		}
	}
	if count[true] < 100 {
		t.Errorf("too few shadows: %v", count)
	}
}

// TestP9OneSlantingPlane has both triangles and the light in one plane that no
// two axes span, and a ray that meets it at points that no float holds.
func TestP9OneSlantingPlane(t *testing.T) {
	var c chance
	count := map[bool]int{}
	for range 400 {
		var o, u, v [3]float32
		for i := range 3 {
			o[i], u[i], v[i] = c.float(9, 0), c.float(9, 0), c.float(9, 0)
		}
		at := func(i, j float32) impl.Point {
			return point(o[0]+i*u[0]+j*v[0], o[1]+i*u[1]+j*v[1], o[2]+i*u[2]+j*v[2])
		}
		near := func() impl.Point { return at(c.float(9, 0), c.float(9, 0)) }
		hit, r := impl.Tri{A: at(-90, -70), B: at(80, -60), C: at(-10, 90)}, c.gridRay(30, 0)
		tri, light := impl.Tri{A: near(), B: near(), C: near()}, near()
		dark, met := checkShadowExactly(t, "one plane", tri, r, hit, light)
		if met {
			count[dark]++
			checkShadowExactly(t, "the hit itself", hit, r, hit, light)
			checkShadowExactly(t, "beside the plane", tri, r, hit, beside(light, int(c.below(3)), 1))
		}
	}
	if count[true] < 20 || count[false] < 20 {
		t.Errorf("too few of a kind: %v", count)
	}
}

// TestP9EdgesAcrossTheWay has an edge from the middle between the ray's start
// and the light to a point of the ray behind the hit: so it is in one plane with
// the way to the light, and crosses it at a point that no float holds. Then one
// end of the edge is moved by one float.
func TestP9EdgesAcrossTheWay(t *testing.T) {
	var c chance
	count := map[bool]int{}
	for range 400 {
		r, hit, light := c.gridRay(9, 1), c.gridTri(30, 1), c.grid(9, 1)
		s := exactDistance(hit, r)
		if s == nil || s.Cmp(big.NewRat(8, 1)) >= 0 {
			continue
		}
		o, d, l := floatsOf(r.O), floatsOf(r.D), floatsOf(light)
		var middle, behind floats
		for i := range o {
			middle[i], behind[i] = (o[i]+l[i])/2, o[i]+8*d[i]
		}
		edge := func(v floats) impl.Point { return point(float32(v[0]), float32(v[1]), float32(v[2])) }
		tri := impl.Tri{A: edge(middle), B: edge(behind), C: c.grid(50, 0)}
		dark, _ := checkShadowExactly(t, "the edge", tri, r, hit, light)
		if !dark && s.Sign() > 0 && !exactFlat(tri) && exactVolume(r.O, tri.A, tri.B, tri.C).sign() != 0 {
			t.Errorf("%x crosses the way from the hit of %x at %x to %x", tri, r, hit, light)
		}
		axis, n := int(c.below(3)), 2*int(c.below(2))-1
		for _, moved := range []impl.Tri{{A: beside(tri.A, axis, n), B: tri.B, C: tri.C}, {A: tri.A, B: beside(tri.B, axis, n), C: tri.C}} {
			dark, _ = checkShadowExactly(t, "beside the edge", moved, r, hit, light)
			count[dark]++
		}
	}
	if count[true] < 20 || count[false] < 20 {
		t.Errorf("too few of a kind: %v", count)
	}
}

// TestP9ProductsBelowTheLeastFloat64 has the hit's point at a distance of about
// 2^-698, and the way to the light above or below an edge by about 2^-847: times
// the lengths of the edge and of the way, that is no float64.
func TestP9ProductsBelowTheLeastFloat64(t *testing.T) {
	const e = math.SmallestNonzeroFloat32
	m := twoTo(127)
	hit := impl.Tri{A: point(0, 0, e), B: point(e, m, -m), C: point(0, -twoTo(-19), -m)}
	light := point(-e, 0, 0)
	tri := impl.Tri{A: point(0, 0, e), B: point(0, 0, -e), C: point(0, -1, 0)}
	for _, c := range []struct {
		name string
		up   float32
		want bool
	}{
		{"past the edge", e, false}, {"at the edge", 0, true}, {"within the edge", -e, true},
	} {
		r := ray(0, 0, 0, m, c.up, e)
		s := exactDistance(hit, r)
		if s == nil || s.Sign() == 0 || new(big.Rat).Mul(s, new(big.Rat).SetInt(new(big.Int).Lsh(big.NewInt(1), 697))).Cmp(big.NewRat(1, 1)) > 0 {
			t.Errorf("%s: the distance is %v", c.name, s)
		}
		checkShadow(t, c.name, tri, r, hit, light, c.want)
		checkShadowExactly(t, c.name, tri, r, hit, light)
	}
}

func TestP9OfAllKinds(t *testing.T) {
	points := chosenPoints()
	var c chance
	mets := 0
	for i := range 6000 {
		at := func() impl.Point { return points[c.below(uint32(len(points)))] }
		tri, hit, r := impl.Tri{A: at(), B: at(), C: at()}, impl.Tri{A: at(), B: at(), C: at()}, impl.Ray{O: at(), D: at()}
		if isZeroVector(r.D) {
			continue
		}
		if _, met := checkShadowExactly(t, fmt.Sprint("all kinds ", i), tri, r, hit, at()); met {
			mets++
		}
	}
	if mets < 200 {
		t.Errorf("too few hits: %d", mets)
	}
}

func TestShadowsWantsFinitePointsAndAHit(t *testing.T) {
	tri, r, hit, light := level(2), ray(1, 1, 5, 0, 0, -1), level(0), point(1, 1, 4)
	bad := func(what string, tri impl.Tri, r impl.Ray, hit impl.Tri, light impl.Point) {
		t.Helper()
		if dark, code := impl.Shadows(tri, r, hit, light); code != impl.CodeBad || dark {
			t.Errorf("%s: %v, code %d", what, dark, code)
		}
	}
	for place := range 27 {
		for _, wrong := range wrongFloats() {
			p := [9]impl.Point{tri.A, tri.B, tri.C, r.O, r.D, hit.A, hit.B, hit.C, light}
			p[place/3] = with(p[place/3], place%3, wrong)
			bad(fmt.Sprintf("%#x at %d", wrong, place), impl.Tri{A: p[0], B: p[1], C: p[2]}, impl.Ray{O: p[3], D: p[4]}, impl.Tri{A: p[5], B: p[6], C: p[7]}, p[8])
		}
	}
	for signs := range uint32(8) {
		zero := impl.Point{X: signs << 31, Y: signs >> 1 << 31, Z: signs >> 2 << 31}
		bad("a direction of zeros", tri, impl.Ray{O: r.O, D: zero}, hit, light)
		bad("a direction of zeros from the hit", tri, impl.Ray{O: hit.A, D: zero}, hit, light)
	}
	bad("the ray points away", tri, ray(1, 1, 5, 0, 0, 1), hit, light)
	bad("the ray goes beside", tri, ray(1, -math.SmallestNonzeroFloat32, 5, 0, 0, -1), hit, light)
	bad("the ray is parallel", tri, ray(1, 1, 5, 1, 0, 0), hit, light)
	bad("the hit is flat", tri, r, impl.Tri{A: point(0, 1, 0), B: point(1, 1, 0), C: point(2, 1, 0)}, light)
	bad("the hit is flat, along the ray", tri, r, impl.Tri{A: point(1, 1, 0), B: point(1, 1, 1), C: point(1, 1, 2)}, light)
	bad("the light is the ray's start, nothing is hit", tri, r, level(9), r.O)
}
