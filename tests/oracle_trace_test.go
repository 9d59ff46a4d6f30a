package tests

import (
	"fmt"
	"math"
	"slices"
	"strings"
	"testing"

	"loop.example/s01121/impl"
)

// pictureCase has the lights of each ray as ones and zeros, a text for a ray.
type pictureCase struct {
	name   string
	tris   []impl.Tri
	rays   []impl.Ray
	lights []impl.Point
	ids    []int
	lit    []string
}

func checkCases(t *testing.T, cases []pictureCase) {
	t.Helper()
	for _, c := range cases {
		s := impl.Scene{Tris: c.tris, Rays: c.rays, Lights: c.lights}
		want := impl.Picture{Ids: c.ids, Lights: len(c.lights)}
		for _, lit := range strings.Join(c.lit, "") {
			want.Lit = append(want.Lit, lit == '1')
		}
		if exactly := exactPicture(s); !samePicture(exactly, want) {
			t.Errorf("%s: the fractions say %v, not %v", c.name, exactly, want)
		}
		checkTrace(t, c.name, s, want, shapes())
		checkTrace(t, c.name+", other zeros", sceneWithOtherZeros(s), want, sizes())
	}
}

func TestP15WithoutSomeOfThem(t *testing.T) {
	tris, lights := []impl.Tri{level(0), level(2)}, []impl.Point{point(1, 1, 1), point(1, 1, 4), point(1, 1, -4)}
	rays := []impl.Ray{ray(1, 1, 9, 0, 0, -1), ray(1, 1, 9, 0, 0, 1)}
	checkCases(t, []pictureCase{
		{"nothing", nil, nil, nil, nil, nil},
		{"empty lists", []impl.Tri{}, []impl.Ray{}, []impl.Point{}, []int{}, nil},
		{"triangles alone", tris, nil, nil, nil, nil},
		{"rays alone", nil, rays, nil, []int{-1, -1}, nil},
		{"lights alone", nil, nil, lights, nil, nil},
		{"no triangles", nil, rays, lights, []int{-1, -1}, []string{"000", "000"}},
		{"flat triangles only", flats(), rays, lights, []int{-1, -1}, []string{"000", "000"}},
		{"no rays", tris, nil, lights, nil, nil},
		{"no lights", tris, rays, nil, []int{1, -1}, nil},
		{"all of them", tris, rays, lights, []int{1, -1}, []string{"110", "000"}},
		{"one of each", tris[:1], rays[:1], lights[:1], []int{0}, []string{"1"}},
		{"one of each, missed", tris[:1], rays[1:], lights[:1], []int{-1}, []string{"0"}},
	})
}

func TestP15RaysByHand(t *testing.T) {
	down := func(x, y float32) impl.Ray { return ray(x, y, 9, 0, 0, -1) }
	above, floor := []impl.Point{point(1, 1, 8)}, []impl.Tri{level(0)}
	up := math.Nextafter32(2, 3)
	steep := impl.Tri{A: point(1, 0, -5), B: point(1, 5, 0), C: point(1, 0, 5)}
	checkCases(t, []pictureCase{
		{"corners", floor, []impl.Ray{down(0, 0), down(4, 0), down(0, 4)}, above, []int{0, 0, 0}, []string{"1", "1", "1"}},
		{"edges", floor, []impl.Ray{down(2, 0), down(2, 2), down(0, 2)}, above, []int{0, 0, 0}, []string{"1", "1", "1"}},
		{"the least beside edges", floor, []impl.Ray{down(2, -math.SmallestNonzeroFloat32), down(2, up), down(up, 2)}, above, []int{-1, -1, -1}, []string{"0", "0", "0"}},
		{"the other way", floor, []impl.Ray{ray(1, 1, 9, 0, 0, 1), ray(1, 1, -9, 0, 0, 1), down(1, 1)}, above, []int{-1, 0, 0}, []string{"0", "1", "1"}},
		{"from the triangle", floor, []impl.Ray{ray(1, 1, 0, 0, 0, 1), ray(1, 1, 0, 1, 0, 0)}, above, []int{0, 0}, []string{"1", "1"}},
		{"in its plane", floor, []impl.Ray{ray(-1, 1, 0, 1, 0, 0), ray(9, 0, 0, -1, 0, 0), ray(5, -1, 0, -1, 1, 0), ray(-1, 1, 0, -1, 0, 0)}, above, []int{0, 0, 0, -1}, []string{"1", "1", "1", "0"}},
		{"parallel to its plane", floor, []impl.Ray{ray(-1, 1, 1, 1, 0, 0), ray(-1, 1, math.SmallestNonzeroFloat32, 1, 0, 0)}, above, []int{-1, -1}, []string{"0", "0"}},
		{"two at one distance", []impl.Tri{level(0), steep}, []impl.Ray{ray(3, 1, 5, -2, 0, -5)}, above, []int{0}, []string{"0"}},
		{"two at one distance, exchanged", []impl.Tri{steep, level(0)}, []impl.Ray{ray(3, 1, 5, -2, 0, -5)}, above, []int{0}, []string{"1"}},
		{"two at one distance behind a third", []impl.Tri{level(0), steep, level(2)}, []impl.Ray{ray(3, 1, 5, -2, 0, -5)}, above, []int{2}, []string{"1"}},
		{"in the plane of one, across another", []impl.Tri{level(0), steep}, []impl.Ray{down(1, 1)}, above, []int{1}, []string{"1"}},
		{"flat ones ahead", slices.Concat(flats(), []impl.Tri{{A: point(0, 1, 3), B: point(1, 1, 3), C: point(2, 1, 3)}}, floor), []impl.Ray{down(1, 1)}, above, []int{6}, []string{"1"}},
		{"a flat one as an edge of another", []impl.Tri{{A: point(0, 0, 0), B: point(4, 0, 0), C: point(2, 0, 0)}, level(0)}, []impl.Ray{down(2, 0)}, above, []int{1}, []string{"1"}},
	})
}

func TestP15LightsByHand(t *testing.T) {
	const most, least = math.MaxFloat32, math.SmallestNonzeroFloat32
	down, floor := []impl.Ray{ray(1, 1, 9, 0, 0, -1)}, level(0)
	low := []impl.Ray{ray(1, 1, 1, 0, 0, -1)}
	wall := impl.Tri{A: point(2, 0, -1), B: point(2, 4, -1), C: point(2, 0, 9)}
	checkCases(t, []pictureCase{
		{"where the ray begins", []impl.Tri{floor, level(2), wall}, []impl.Ray{down[0], low[0]}, []impl.Point{down[0].O, low[0].O}, []int{1, 0}, []string{"11", "01"}},
		{"at the point that is met", []impl.Tri{floor, floor, wall}, down, []impl.Point{point(1, 1, 0)}, []int{0}, []string{"1"}},
		{"beside the point that is met", []impl.Tri{floor, floor}, down, []impl.Point{point(1, 1, least), point(1, up(1), 0), point(1, up(1), least), point(beneath(1), 1, 0)}, []int{0}, []string{"1010"}},
		{"in the plane of the one that is met", []impl.Tri{floor}, down, []impl.Point{point(3, 1, 0), point(2, 0, 0), point(-most, 1, 0), point(0, 0, 0)}, []int{0}, []string{"1111"}},
		{"in that plane, another in the way", []impl.Tri{floor, wall}, down, []impl.Point{point(3, 1, 0), point(2, 1, 0), point(-most, 1, 0), point(up(2), 1, 0)}, []int{0}, []string{"0110"}},
		{"in that plane, another beside it in the plane", []impl.Tri{floor, {A: point(5, 1, 0), B: point(9, 1, 0), C: point(9, 9, 0)}}, down, []impl.Point{point(5, 1, 0), point(7, 1, 0), point(9, 9, 0), point(9, 8, 0)}, []int{0}, []string{"1010"}},
		{"in the plane of another", []impl.Tri{floor, level(2)}, low, []impl.Point{point(1, 1, 2), point(0, 0, 2), point(9, 9, 2), point(1, 1, up(2))}, []int{0}, []string{"1110"}},
		{"in the plane of another, the point too", []impl.Tri{floor, {A: point(5, 1, 0), B: point(5, 1, 4), C: point(9, 1, 0)}}, down, []impl.Point{point(9, 1, 9), point(9, 1, 8), point(9, 1, 7), point(1, 1, 7)}, []int{0}, []string{"1001"}},
		{"below", []impl.Tri{floor, level(-2)}, down, []impl.Point{point(1, 1, -1), point(1, 1, -2), point(1, 1, -3), point(9, 9, -3)}, []int{0}, []string{"1101"}},
		{"through an edge and a corner", []impl.Tri{floor, level(2)}, low, []impl.Point{point(1, -1, 4), point(1, beneath(-1), 4), point(-1, -1, 4), point(-1, beneath(-1), 4)}, []int{0}, []string{"0101"}},
		{"flat ones in the way", []impl.Tri{floor, {A: point(0, 1, 2), B: point(1, 1, 2), C: point(2, 1, 2)}, {A: point(1, 1, 1), B: point(1, 1, 2), C: point(1, 1, 3)}}, low, []impl.Point{point(1, 1, 4)}, []int{0}, []string{"1"}},
		{"the same light four times", []impl.Tri{floor, level(2)}, []impl.Ray{down[0], low[0]}, slices.Repeat([]impl.Point{point(1, 1, 4)}, 4), []int{1, 0}, []string{"1111", "0000"}},
		{"as far as floats go", []impl.Tri{floor, level(least), wall}, low, []impl.Point{point(1, 1, most), point(1, 1, -most), point(most, most, -most), point(-most, most, -most)}, []int{1}, []string{"1000"}},
	})
}

// up is the next float further up.
func up(x float32) float32 {
	return math.Nextafter32(x, math.MaxFloat32)
}

// TestP15ATriangleTwice: the one with the other index lies in the way of lights
// in its plane, unless the way to them leaves it at once.
func TestP15ATriangleTwice(t *testing.T) {
	lights := []impl.Point{point(3, 1, 0), point(9, 1, 0), point(1, 1, 4), point(1, 1, 0)}
	rays := []impl.Ray{ray(1, 1, 9, 0, 0, -1), ray(1, 1, -9, 0, 0, 1), ray(4, 0, 9, 0, 0, -1), ray(2, 0, 9, 0, 0, -1), ray(-1, 1, 0, 1, 0, 0)}
	outside := []impl.Point{point(2, -3, 0), point(3, 0, 0), point(-1, 1, 0), point(5, -1, 0)}
	for _, other := range orders(level(0)) {
		twice := []impl.Tri{level(0), other}
		checkCases(t, []pictureCase{
			{"once", twice[:1], rays[:2], lights, []int{0, 0}, []string{"1111", "1111"}},
			{"twice", twice, rays, lights, []int{0, 0, 0, 0, 0}, []string{"0011", "0011", "0110", "0010", "0010"}},
			{"twice, the way leaves it", twice, rays[2:], outside, []int{0, 0, 0}, []string{"1001", "1001", "0010"}},
			{"three times", append(twice, other), rays[:2], lights, []int{0, 0}, []string{"0011", "0011"}},
			{"twice, a third ahead", append(twice, level(1)), rays[:2], lights, []int{2, 0}, []string{"1111", "0001"}},
		})
	}
}

// TestP15PointsThatNoFloatHolds has a point that is met at (1/3, 1/3, 0); with
// the light at (0, 0, 3) the way to it is at (2/9, 2/9, 1) at its third.
func TestP15PointsThatNoFloatHolds(t *testing.T) {
	rays, lights := []impl.Ray{ray(0, 0, 1, 1, 1, -3)}, []impl.Point{point(0, 0, 3), point(0, 0, 1), point(3, 3, 0)}
	edge := impl.Tri{A: point(0, 0, 1.5), B: point(1, 1, 1.5), C: point(1, -1, 1.5)}
	plane := impl.Tri{A: point(0, 0, 1.5), B: point(2, 2, 1.5), C: point(1, 1, 2)}
	with := func(other impl.Tri) []impl.Tri { return []impl.Tri{level(0), other} }
	checkCases(t, []pictureCase{
		{"an edge through the way", with(edge), rays, lights, []int{0}, []string{"011"}},
		{"the edge one last bit beside", with(impl.Tri{A: edge.A, B: beside(edge.B, 1, -1), C: edge.C}), rays, lights, []int{0}, []string{"111"}},
		{"the edge one last bit over", with(impl.Tri{A: edge.A, B: beside(edge.B, 1, 1), C: edge.C}), rays, lights, []int{0}, []string{"011"}},
		{"in one plane with the way", with(plane), rays, lights, []int{0}, []string{"011"}},
		{"one last bit out of that plane", with(impl.Tri{A: plane.A, B: beside(plane.B, 0, 1), C: beside(plane.C, 0, 1)}), rays, lights, []int{0}, []string{"111"}},
		{"the same triangle again", with(level(0)), rays, lights, []int{0}, []string{"110"}},
		{"the least above", with(level(math.SmallestNonzeroFloat32)), rays, lights, []int{1}, []string{"111"}},
		{"the least below", with(level(-math.SmallestNonzeroFloat32)), rays, lights, []int{0}, []string{"111"}},
	})
}

// TestP15LeastAndGreatestFloats has scenes of whole numbers times the least
// float, and times the greatest power of two that a float holds.
func TestP15LeastAndGreatestFloats(t *testing.T) {
	var c chance
	var seen kinds
	for _, e := range []int{-149, 125} {
		for i := range 40 {
			s := c.gridScene(int(c.below(8)), 4, 3, 1+c.below(3), e)
			seen.count(checkTraceExactly(t, fmt.Sprint("scene ", i, ", 2^", e), s, sizes()))
		}
	}
	for i := range 30 {
		s := c.gridScene(4, 3, 3, 2, -149)
		far := c.gridScene(4, 3, 1, 3, 126)
		s.Tris, s.Rays, s.Lights = append(s.Tris, far.Tris...), append(s.Rays, far.Rays...), append(s.Lights, far.Lights...)
		for k := range 3 {
			s.Rays = append(s.Rays, impl.Ray{O: s.Rays[k].O, D: far.Rays[k].D}, impl.Ray{O: far.Rays[k].O, D: s.Rays[k].D})
		}
		seen.count(checkTraceExactly(t, fmt.Sprint("both, scene ", i), s, sizes()))
	}
	seen.check(t, 100)
}

func TestP15OnTheGrid(t *testing.T) {
	var c chance
	var seen kinds
	for i := range 120 {
		s := c.gridScene(int(c.below(13)), int(c.below(7)), int(c.below(5)), 1+c.below(4), 0)
		p := checkTraceExactly(t, fmt.Sprint("scene ", i), s, shapes())
		checkTrace(t, fmt.Sprint("scene ", i, ", other zeros"), sceneWithOtherZeros(s), p, sizes())
		seen.count(p)
	}
	seen.check(t, 60)
}

// TestP15OnePlane has all triangles, rays and lights in one plane; then some of
// the lights are one float beside it.
func TestP15OnePlane(t *testing.T) {
	var c chance
	var within, besides kinds
	for axis := range 3 {
		for i := range 20 {
			s := c.gridScene(1+int(c.below(6)), 5, 4, 3, 0)
			for k, place := range floatsIn(s) {
				if k%3 == axis {
					*place = 0
				}
			}
			for k := range s.Rays {
				if isZeroVector(s.Rays[k].D) {
					s.Rays[k].D = with(point(1, 1, 1), axis, 0)
				}
			}
			what := fmt.Sprint("axis ", axis, ", scene ", i)
			within.count(checkTraceExactly(t, what, s, sizes()))
			for k := range s.Lights {
				s.Lights[k] = beside(s.Lights[k], axis, 1)
			}
			besides.count(checkTraceExactly(t, what+", lights beside it", s, sizes()))
		}
	}
	within.check(t, 40)
	if besides.dark != 0 || besides.lit == 0 {
		t.Errorf("lights out of the plane are held off: %+v", besides)
	}
}

func TestP15OfAllKinds(t *testing.T) {
	points := chosenPoints()
	var c chance
	var seen kinds
	at := func() impl.Point { return points[c.below(uint32(len(points)))] }
	for i := range 60 {
		var s impl.Scene
		for range c.below(10) {
			s.Tris = append(s.Tris, impl.Tri{A: at(), B: at(), C: at()})
		}
		for range 5 {
			if r := (impl.Ray{O: at(), D: at()}); !isZeroVector(r.D) {
				s.Rays = append(s.Rays, r)
			}
		}
		s.Lights = []impl.Point{at(), at(), at()}
		seen.count(checkTraceExactly(t, fmt.Sprint("scene ", i), s, sizes()))
	}
	seen.check(t, 40)
}

// TestP15FullScenes has as many triangles, rays and lights as there may be.
func TestP15FullScenes(t *testing.T) {
	var c chance
	var seen kinds
	for i, limit := range []uint32{2, 9, 40} {
		s := c.gridScene(impl.MaxTris, impl.MaxRays, impl.MaxLights, limit, 0)
		seen.count(checkTraceExactly(t, fmt.Sprint("scene ", i), s, sizes()))
	}
	seen.check(t, 20)
	floors := impl.Scene{Lights: []impl.Point{point(1, 1, 50), point(1, 1, 19.5), point(2, 1, 39), point(1, 1, -1)}}
	for i := range impl.MaxTris {
		floors.Tris = append(floors.Tris, level(float32(i)))
		floors.Rays = append(floors.Rays, ray(1, 1, float32(i)+0.5, 0, 0, -1))
	}
	p := checkTraceExactly(t, "floors", floors, sizes())
	for i, id := range p.Ids {
		if id != i {
			t.Errorf("ray %d meets floor %d", i, id)
		}
	}
}

// TestP15EveryDepthAndLeaf has all that are within the bounds.
func TestP15EveryDepthAndLeaf(t *testing.T) {
	var c chance
	s := c.gridScene(impl.MaxTris, 8, 0, 12, 0)
	for _, r := range s.Rays[:impl.MaxLights] {
		s.Lights = append(s.Lights, r.O)
	}
	var all []shape
	for depth := range impl.MaxDepth + 1 {
		for leaf := range impl.MaxTris {
			all = append(all, shape{depth, leaf + 1})
		}
	}
	var seen kinds
	seen.count(checkTraceExactly(t, "a full scene", s, all))
	seen.check(t, 1)
}

// TestP15EachRayAndLightAlone: no ray and no light has to do with another.
func TestP15EachRayAndLightAlone(t *testing.T) {
	var c chance
	for i := range 20 {
		s := c.gridScene(9, 7, 4, 3, 0)
		whole, _ := impl.Trace(s, 3, 1)
		for k, r := range s.Rays {
			for l, light := range s.Lights {
				alone := impl.Scene{Tris: s.Tris, Rays: []impl.Ray{r}, Lights: []impl.Point{light}}
				want := impl.Picture{Ids: whole.Ids[k : k+1], Lights: 1, Lit: whole.Lit[4*k+l : 4*k+l+1]}
				checkTrace(t, fmt.Sprint("scene ", i, ", ray ", k, ", light ", l), alone, want, sizes()[:4])
			}
		}
	}
}

// TestP15FloatsOfAllKinds holds Trace against FirstHit and Shadows, for any
// floats.
func TestP15FloatsOfAllKinds(t *testing.T) {
	var c chance
	var seen kinds
	for i := range 150 {
		s := c.validScene(1+int(c.below(impl.MaxTris)), 8, 4)
		for k := range s.Rays {
			// A ray from one triangle to another meets something more often.
			if c.below(2) == 0 {
				s.Rays[k].O = s.Tris[c.below(uint32(len(s.Tris)))].A
			}
		}
		want := impl.Picture{Lights: 4}
		for _, r := range s.Rays {
			id, _ := impl.FirstHit(s.Tris, r, 0, 1)
			want.Ids = append(want.Ids, id)
			for _, light := range s.Lights {
				lit := id >= 0
				for k, tri := range s.Tris {
					if k != id && lit {
						dark, _ := impl.Shadows(tri, r, s.Tris[id], light)
						lit = !dark
					}
				}
				want.Lit = append(want.Lit, lit)
			}
		}
		checkTrace(t, fmt.Sprint("scene ", i), s, want, sizes())
		seen.count(want)
	}
	seen.check(t, 100)
}

// TestP15LightsWhereRaysBegin: what is met first lies open to them.
func TestP15LightsWhereRaysBegin(t *testing.T) {
	var c chance
	for i := range 60 {
		s := c.gridScene(12, 4, 0, 3, 0)
		for _, r := range s.Rays {
			s.Lights = append(s.Lights, r.O)
		}
		p := checkTraceExactly(t, fmt.Sprint("scene ", i), s, sizes())
		for k, id := range p.Ids {
			if p.Lit[4*k+k] != (id >= 0) {
				t.Errorf("scene %d: ray %d meets %d, and its own light is %v", i, k, id, p.Lit[4*k+k])
			}
		}
	}
}

func TestTraceWantsAValidScene(t *testing.T) {
	var c chance
	for _, n := range [][3]int{{41, 0, 0}, {0, 41, 0}, {0, 0, 5}, {41, 40, 4}, {40, 41, 4}, {40, 40, 5}, {300, 1, 1}, {1, 257, 1}, {1, 1, 260}} {
		for _, form := range sizes() {
			checkNoTrace(t, fmt.Sprint(n), c.validScene(n[0], n[1], n[2]), form)
		}
	}
	for i, s := range someScenes() {
		for k, place := range floatsIn(s) {
			was := *place
			for _, bits := range wrongFloats() {
				*place = bits
				checkNoTrace(t, fmt.Sprintf("scene %d, %x in place %d", i, bits, k), s, shape{3, 2})
			}
			*place = was
		}
		for k := range s.Rays {
			was := s.Rays[k]
			for _, zeros := range signedZeros() {
				s.Rays[k].D = zeros
				checkNoTrace(t, fmt.Sprint("scene ", i, ", ray ", k), s, shape{0, 1})
			}
			s.Rays[k] = was
		}
	}
}

func TestTraceWantsItsBounds(t *testing.T) {
	var c chance
	for _, s := range append(someScenes(), c.validScene(41, 1, 1), impl.Scene{Tris: flats(), Rays: make([]impl.Ray, 2)}) {
		for _, form := range wrongShapes() {
			checkNoTrace(t, "a wrong shape", s, form)
		}
	}
}
