package tests

import (
	"fmt"
	"math"
	"testing"

	"loop.example/s01121/impl"
)

func TestFlatByHand(t *testing.T) {
	const most, least = math.MaxFloat32, math.SmallestNonzeroFloat32
	o, x, y := point(0, 0, 0), point(1, 0, 0), point(0, 1, 0)
	for _, c := range []struct {
		name string
		tri  impl.Tri
		want bool
	}{
		{"a plain triangle", impl.Tri{A: o, B: x, C: y}, false},
		{"a slanting one", impl.Tri{A: x, B: y, C: point(0, 0, 1)}, false},
		{"A and B fall together", impl.Tri{A: x, B: x, C: y}, true},
		{"A and C fall together", impl.Tri{A: x, B: y, C: x}, true},
		{"B and C fall together", impl.Tri{A: x, B: y, C: y}, true},
		{"all fall together", impl.Tri{A: y, B: y, C: y}, true},
		{"they fall together but for the zeros' signs", impl.Tri{A: o, B: otherZeros(o), C: y}, true},
		{"a line along an axis", impl.Tri{A: o, B: point(0, 0, 5), C: point(0, 0, -3)}, true},
		{"a slanting line", impl.Tri{A: point(1, 2, 3), B: point(2, 4, 6), C: point(-3, -6, -9)}, true},
		{"a line with a negative zero in it", impl.Tri{A: x, B: point(5, 0, 0), C: impl.Point{X: 0x3f000000, Y: signBit, Z: signBit}}, true},
		{"one last bit beside the axis", impl.Tri{A: o, B: point(0, 0, 5), C: impl.Point{X: 1, Z: 0xc0400000}}, false},
		{"one last bit beside the slanting line", impl.Tri{A: point(1, 2, 3), B: point(2, 4, 6), C: beside(point(-3, -6, -9), 1, 1)}, false},
		{"all of the least", impl.Tri{A: o, B: point(least, 0, 0), C: point(0, least, 0)}, false},
		{"a line of the least", impl.Tri{A: o, B: point(least, least, least), C: point(-least, -least, -least)}, true},
		{"all of the greatest", impl.Tri{A: point(-most, -most, -most), B: point(most, -most, -most), C: point(-most, most, -most)}, false},
		{"a line of the greatest", impl.Tri{A: point(-most, most, -most), B: point(most, -most, most), C: o}, true},
		{"the least beside that line", impl.Tri{A: point(-most, most, -most), B: point(most, -most, most), C: point(least, 0, 0)}, false},
		{"the least and the greatest in a line", impl.Tri{A: point(least, 0, 0), B: point(most, 0, 0), C: point(-most, 0, 0)}, true},
		{"the least side and the greatest", impl.Tri{A: o, B: point(least, 0, 0), C: point(most, least, 0)}, false},
		{"not flat by X alone", impl.Tri{A: o, B: point(0, 1, 0), C: point(0, 0, 1)}, false},
		{"not flat by Y alone", impl.Tri{A: o, B: point(1, 0, 0), C: point(0, 0, 1)}, false},
	} {
		if flat, code := impl.Flat(c.tri); code != impl.CodeOK || flat != c.want {
			t.Errorf("%s: %v, code %d, want %v", c.name, flat, code, c.want)
		}
	}
}

func TestFlatOfAllKinds(t *testing.T) {
	points := chosenPoints()
	for i, a := range points {
		for j, b := range points {
			for k, c := range points {
				tri := impl.Tri{A: a, B: b, C: c}
				checkFlat(t, fmt.Sprint(i, j, k), tri)
				checkFlat(t, fmt.Sprint(i, j, k), impl.Tri{A: a, B: otherZeros(b), C: otherZeros(c)})
			}
		}
	}
}

// TestFlatOneLastBitBeside moves each corner of a line by one float on each
// axis: the triangle is flat still exactly if the line runs along that axis.
func TestFlatOneLastBitBeside(t *testing.T) {
	var c chance
	for _, e := range []int{-149, -127, -40, 0, 30, 100} {
		for range 60 {
			var u [3]float32
			for i := range u {
				u[i] = c.float(5, e)
			}
			at := func(k float32) impl.Point { return point(k*u[0], k*u[1], k*u[2]) }
			p := [3]impl.Point{at(c.float(9, 0)), at(c.float(2000, 0)), at(c.float(100000, 0))}
			tri := impl.Tri{A: p[0], B: p[1], C: p[2]}
			if flat, code := impl.Flat(tri); code != impl.CodeOK || !flat {
				t.Errorf("%x lie in one line: %v, code %d", p, flat, code)
			}
			for place := range 9 {
				for _, n := range []int{-1, 1} {
					q := p
					q[place/3] = beside(p[place/3], place%3, n)
					checkFlat(t, "beside the line", impl.Tri{A: q[0], B: q[1], C: q[2]})
				}
			}
		}
	}
}

func TestFlatWantsAFiniteTriangle(t *testing.T) {
	for _, wrong := range wrongFloats() {
		for place := range 9 {
			for _, p := range [][3]impl.Point{{}, {point(0, 0, 0), point(1, 0, 0), point(0, 1, 0)}} {
				p[place/3] = with(p[place/3], place%3, wrong)
				if flat, code := impl.Flat(impl.Tri{A: p[0], B: p[1], C: p[2]}); code != impl.CodeBad || flat {
					t.Errorf("%#x at %d: %v, code %d", wrong, place, flat, code)
				}
			}
		}
	}
}

func isZeroVector(p impl.Point) bool {
	return (p.X|p.Y|p.Z)&^signBit == 0
}

func TestAcrossOfAllKinds(t *testing.T) {
	points := chosenPoints()
	for i, a := range points {
		for j, b := range points {
			for k, c := range points[:j] {
				for l, d := range points {
					if !isZeroVector(d) && (i+j+k+l)%3 == 0 {
						checkAcross(t, fmt.Sprint(i, j, k, l), impl.Tri{A: a, B: b, C: c}, d)
						checkAcross(t, fmt.Sprint(i, j, k, l), impl.Tri{A: otherZeros(a), B: b, C: otherZeros(c)}, otherZeros(d))
					}
				}
			}
		}
	}
}

func TestAcrossByHand(t *testing.T) {
	const most, least = math.MaxFloat32, math.SmallestNonzeroFloat32
	level := impl.Tri{A: point(5, 5, 5), B: point(6, 5, 5), C: point(5, 6, 5)}
	turned := impl.Tri{A: level.A, B: level.C, C: level.B}
	slant := impl.Tri{A: point(1, 0, 0), B: point(0, 1, 0), C: point(0, 0, 1)}
	tiny := impl.Tri{B: point(least, 0, 0), C: point(0, least, 0)}
	wide := impl.Tri{A: point(-most, -most, most), B: point(most, -most, most), C: point(-most, most, most)}
	line := impl.Tri{A: point(1, 1, 1), B: point(2, 2, 2), C: point(7, 7, 7)}
	for _, c := range []struct {
		name string
		tri  impl.Tri
		d    impl.Point
		want int
	}{
		{"at right angles", level, point(0, 0, 1), 1},
		{"at right angles, back", level, point(0, 0, -2), -1},
		{"at right angles, seen from behind", turned, point(0, 0, 1), -1},
		{"at right angles to the slanting one", slant, point(2, 2, 2), 1},
		{"at right angles to it, back", slant, point(-2, -2, -2), -1},
		{"within the plane", level, point(1, 1, 0), 0},
		{"within the plane, with a negative zero", level, impl.Point{X: 0x3f800000, Z: signBit}, 0},
		{"within the slanting plane", slant, point(1, 1, -2), 0},
		{"within it, great", slant, point(most, -most, 0), 0},
		{"within it, small", slant, point(least, -2*least, least), 0},
		{"the least beside the plane", level, point(most, -most, least), 1},
		{"the least beside it, below", level, point(-most, most, -least), -1},
		{"one last bit beside the slanting plane", slant, beside(point(1, 1, -2), 2, 1), 1},
		{"one last bit beside it, below", slant, beside(point(1, 1, -2), 0, -1), -1},
		{"the least triangle", tiny, point(0, 0, least), 1},
		{"the least triangle, within", tiny, point(most, most, 0), 0},
		{"the greatest triangle", wide, point(most, most, most), 1},
		{"the greatest triangle and the least direction", wide, point(0, 0, -least), -1},
		{"the greatest triangle, within", wide, point(-most, least, 0), 0},
		{"a flat triangle", line, point(1, 2, 3), 0},
		{"a flat triangle, along it", line, point(1, 1, 1), 0},
	} {
		for _, o := range []impl.Point{{}, {X: signBit}, c.tri.A, point(most, -most, most), point(least, 1, -7)} {
			if sign, code := impl.Across(c.tri, impl.Ray{O: o, D: c.d}); code != impl.CodeOK || sign != c.want {
				t.Errorf("%s, from %x: %d, code %d, want %d", c.name, o, sign, code, c.want)
			}
		}
	}
}

// TestAcrossOneLastBitBeside has directions within a plane, then one float
// beside it on each axis.
func TestAcrossOneLastBitBeside(t *testing.T) {
	var c chance
	for _, e := range []int{-149, -128, -50, 0, 21, 110} {
		for range 60 {
			p := inPlane(&c, e, 9)
			tri := impl.Tri{A: p[0], B: p[1], C: p[2]}
			i, j := c.float(9, 0), c.float(9, 0)
			along := func(from, b, c uint32) float32 {
				x := math.Float32frombits(from)
				return i*(math.Float32frombits(b)-x) + j*(math.Float32frombits(c)-x)
			}
			d := point(along(tri.A.X, tri.B.X, tri.C.X), along(tri.A.Y, tri.B.Y, tri.C.Y), along(tri.A.Z, tri.B.Z, tri.C.Z))
			if isZeroVector(d) {
				continue
			}
			if sign, code := impl.Across(tri, impl.Ray{D: d}); code != impl.CodeOK || sign != 0 {
				t.Errorf("%x lies in the plane of %x: %d, code %d", d, tri, sign, code)
			}
			for axis := range 3 {
				for _, n := range []int{-1, 1} {
					if b := beside(d, axis, n); !isZeroVector(b) {
						checkAcross(t, "beside the plane", tri, b)
					}
				}
			}
		}
	}
}

func TestAcrossWantsAFiniteTriangleAndAProperRay(t *testing.T) {
	for _, wrong := range wrongFloats() {
		for place := range 15 {
			p := [5]impl.Point{point(0, 0, 0), point(1, 0, 0), point(0, 1, 0), point(3, 3, 3), point(0, 0, 1)}
			p[place/3] = with(p[place/3], place%3, wrong)
			if sign, code := impl.Across(impl.Tri{A: p[0], B: p[1], C: p[2]}, impl.Ray{O: p[3], D: p[4]}); code != impl.CodeBad || sign != 0 {
				t.Errorf("%#x at %d: %d, code %d", wrong, place, sign, code)
			}
		}
	}
}

// TestAcrossWantsADirection goes through all zero vectors, then through the
// shortest directions, which are proper.
func TestAcrossWantsADirection(t *testing.T) {
	tri := impl.Tri{A: point(1, 0, 0), B: point(0, 1, 0), C: point(0, 0, 1)}
	for signs := range uint32(8) {
		zero := impl.Point{X: signs << 31, Y: signs >> 1 << 31, Z: signs >> 2 << 31}
		if sign, code := impl.Across(tri, impl.Ray{O: tri.A, D: zero}); code != impl.CodeBad || sign != 0 {
			t.Errorf("%x: %d, code %d", zero, sign, code)
		}
		for axis := range 3 {
			for _, n := range []int{-1, 1} {
				if sign, code := impl.Across(tri, impl.Ray{O: tri.A, D: beside(zero, axis, n)}); code != impl.CodeOK || sign != n {
					t.Errorf("%d on axis %d of %x: %d, code %d", n, axis, zero, sign, code)
				}
			}
		}
	}
}
