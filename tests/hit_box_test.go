package tests

import (
	"fmt"
	"math"
	"math/big"
	"testing"

	"loop.example/s01121/impl"
)

// exactBox looks at the ray's start, and at each point where the ray comes to
// the least or the greatest value of a coordinate: one of them is in the box if
// any point of the ray is.
func exactBox(lo, hi impl.Point, r impl.Ray) bool {
	low, high, o, d := spotOf(lo), spotOf(hi), spotOf(r.O), spotOf(r.D)
	holds := func(p spot) bool {
		for i := range p {
			if p[i].Cmp(low[i]) < 0 || p[i].Cmp(high[i]) > 0 {
				return false
			}
		}
		return true
	}
	if holds(o) {
		return true
	}
	for i := range d {
		for _, side := range []spot{low, high} {
			if d[i].Sign() == 0 {
				continue
			}
			s := new(big.Rat).Sub(side[i], o[i])
			if s.Quo(s, d[i]); s.Sign() >= 0 && holds(o.along(d, s)) {
				return true
			}
		}
	}
	return false
}

func checkBox(t *testing.T, what string, lo, hi impl.Point, r impl.Ray, want bool) {
	t.Helper()
	if in, code := impl.BoxHit(lo, hi, r); code != impl.CodeOK || in != want {
		t.Errorf("%s: BoxHit of %x, %x and %x is %v, code %d, want %v", what, lo, hi, r, in, code, want)
	}
	zeros := impl.Ray{O: otherZeros(r.O), D: otherZeros(r.D)}
	for _, box := range [][2]impl.Point{{otherZeros(lo), hi}, {lo, otherZeros(hi)}, {otherZeros(lo), otherZeros(hi)}} {
		if in, code := impl.BoxHit(box[0], box[1], zeros); code != impl.CodeOK || in != want {
			t.Errorf("%s, other zeros: BoxHit of %x and %x is %v, code %d, want %v", what, box, zeros, in, code, want)
		}
	}
}

func TestBoxHitByHand(t *testing.T) {
	const most, least = math.MaxFloat32, math.SmallestNonzeroFloat32
	o, one := point(0, 0, 0), point(1, 1, 1)
	above := math.Nextafter32(1, 2)
	for _, c := range []struct {
		name   string
		lo, hi impl.Point
		r      impl.Ray
		want   bool
	}{
		{"through the inside", o, one, ray(-1, 0.5, 0.5, 1, 0, 0), true},
		{"away from it", o, one, ray(-1, 0.5, 0.5, -1, 0, 0), false},
		{"behind it", o, one, ray(above, 0.5, 0.5, 1, 0, 0), false},
		{"begins within", o, one, ray(0.5, 0.5, 0.5, -7, 2, 3), true},
		{"begins on a face and goes away", o, one, ray(1, 0.5, 0.5, 1, 0, 0), true},
		{"begins on an edge and goes away", o, one, ray(1, 1, 0.5, 1, 1, 0), true},
		{"begins on a corner and goes away", o, one, ray(1, 1, 1, 1, 1, 1), true},
		{"begins the least beside a corner", o, one, ray(1, 1, above, 1, 1, 1), false},
		{"begins the least below a face", o, one, ray(0.5, 0.5, -least, 1, 1, 0), false},
		{"along a face", o, one, ray(-1, 0, 0.5, 1, 0, 0), true},
		{"along a face, the least outside", o, one, ray(-1, -least, 0.5, 1, 0, 0), false},
		{"along the upper face", o, one, ray(0.5, 1, -9, 0, 0, 2), true},
		{"along the upper face, the least outside", o, one, ray(0.5, above, -9, 0, 0, 2), false},
		{"along an edge", o, one, ray(-1, 1, 1, 1, 0, 0), true},
		{"along an edge, the least outside", o, one, ray(-1, 1, above, 1, 0, 0), false},
		{"across a face and past an edge", o, one, ray(-1, -1, 0, 1, 2, 0), true},
		{"through an edge", o, one, ray(2, -1, 0.5, -1, 1, 0), true},
		{"touches an edge", o, one, ray(2, 0, 0.5, -1, 1, 0), true},
		{"one last bit beside an edge", o, one, ray(2, least, 0.5, -1, 1, 0), false},
		{"one last bit beside an edge by the direction", o, one, ray(2, 0, 0.5, -1, above, 0), false},
		{"through a corner", o, one, ray(2, -1, 0, -1, 1, 1), true},
		{"through the corner at zero", o, one, ray(-1, 1, -2, 1, -1, 2), true},
		{"beside the corner at zero", o, one, ray(-1, beneath(1), -2, 1, -1, 2), false},
		{"slanting past it", o, one, ray(-1, 0, 0, 1, 2, 0), false},
		{"a point, hit", o, o, ray(-3, -6, 9, 1, 2, -3), true},
		{"a point, begins there", one, one, ray(1, 1, 1, 5, 6, 7), true},
		{"a point, one last bit beside", o, o, ray(-3, -6, 9, 1, 2, beneath(-3)), false},
		{"a point, away", o, o, ray(-3, -6, 9, -1, -2, 3), false},
		{"a line, across", o, point(1, 0, 0), ray(0.5, -1, -1, 0, 1, 1), true},
		{"a line, along", o, point(1, 0, 0), ray(-5, 0, 0, 1, 0, 0), true},
		{"a line, at its end", o, point(1, 0, 0), ray(2, 3, 0, -1, -3, 0), true},
		{"a line, past its end", o, point(1, 0, 0), ray(math.Nextafter32(2, 3), 3, 0, -1, -3, 0), false},
		{"a line, parallel", o, point(1, 0, 0), ray(-5, least, 0, 1, 0, 0), false},
		{"a plane, across", o, point(1, 1, 0), ray(0.5, 0.5, 9, 0, 0, -1), true},
		{"a plane, within", o, point(1, 1, 0), ray(-1, 0.5, 0, 3, 0, 0), true},
		{"a plane, parallel", o, point(1, 1, 0), ray(-1, 0.5, least, 3, 0, 0), false},
		{"a plane, at its corner", o, point(1, 1, 0), ray(3, 3, 2, -1, -1, -1), true},
		{"a plane, past its corner", o, point(1, 1, 0), ray(3, math.Nextafter32(3, 4), 2, -1, -1, -1), false},
		{"a plane, away", o, point(1, 1, 0), ray(0.5, 0.5, 9, 0, 0, 1), false},
		{"the shortest direction", o, one, ray(-1, 0.5, 0.5, least, 0, 0), true},
		{"the shortest direction, to an edge", o, one, ray(-1, 1, 0.5, least, -least, 0), true},
		{"the shortest direction, outside", o, one, ray(-1, 1, 0.5, least, -2*least, 0), false},
		{"the greatest box", point(-most, -most, -most), point(most, most, most), ray(1, 2, 3, least, 0, 0), true},
		{"the greatest box, its corner", point(-most, -most, -most), point(most, most, most), ray(most, most, most, most, most, most), true},
		{"the least box", o, point(least, least, least), ray(-most, -most, -most, most, most, most), true},
		{"the least box, from its corner", o, point(least, least, least), ray(least, -most, least, 0, most, 0), true},
		{"the least box, beside", o, point(least, least, least), ray(2*least, -most, least, 0, most, 0), false},
		{"the least past the greatest", o, point(most, most, most), ray(most, -least, 0, 1, least, 0), false},
	} {
		checkBox(t, c.name, c.lo, c.hi, c.r, c.want)
		if want := exactBox(c.lo, c.hi, c.r); want != c.want {
			t.Errorf("%s: the fractions say %v", c.name, want)
		}
	}
}

// box has lo and hi in order, often equal in some coordinates.
func (c *chance) box(limit uint32, exponent int) (lo, hi impl.Point) {
	a, b := c.grid(limit, exponent), c.grid(limit, exponent)
	return bounds(impl.Tri{A: a, B: b, C: b})
}

func TestBoxHitOnTheGrid(t *testing.T) {
	var c chance
	count := map[bool]int{}
	for _, e := range []int{0, -149, 125} {
		for _, limit := range []uint32{1, 2, 5} {
			for range 400 {
				lo, hi := c.box(limit, e)
				r := c.gridRay(limit, e)
				want := exactBox(lo, hi, r)
				checkBox(t, "on the grid", lo, hi, r, want)
				count[want]++
				axis, n := int(c.below(3)), 2*int(c.below(2))-1
				for _, moved := range []impl.Ray{{O: beside(r.O, axis, n), D: r.D}, {O: r.O, D: beside(r.D, axis, n)}} {
					if !isZeroVector(moved.D) {
						checkBox(t, "beside the grid", lo, hi, moved, exactBox(lo, hi, moved))
					}
				}
			}
		}
	}
	if count[true] < 300 || count[false] < 300 {
		t.Errorf("too few of a kind: %v", count)
	}
}

func TestBoxHitOfAllKinds(t *testing.T) {
	points := chosenPoints()
	for i, a := range points {
		for j, b := range points[:i+1] {
			lo, hi := bounds(impl.Tri{A: a, B: b, C: b})
			for k, o := range points {
				for l, d := range points {
					if r := (impl.Ray{O: o, D: d}); !isZeroVector(d) && (i+j+k+l)%4 == 0 {
						checkBox(t, fmt.Sprint(i, j, k, l), lo, hi, r, exactBox(lo, hi, r))
					}
				}
			}
		}
	}
}

// TestP10EveryBoxAroundATriangle has rays that hit a triangle at a corner, at an
// edge or inside, and boxes that hold it: the least one and greater ones.
func TestP10EveryBoxAroundATriangle(t *testing.T) {
	var c chance
	hits := 0
	for i := range 6000 {
		e := int(c.below(3))*130 - 149
		tri, r := c.gridTri(2, e), c.gridRay(2, e)
		if i%3 == 0 {
			r.D = beside(r.D, int(c.below(3)), 1)
		}
		hit, code := impl.Hits(tri, r)
		if code != impl.CodeOK || !hit {
			continue
		}
		hits++
		lo, hi := bounds(tri)
		checkBox(t, "the least box", lo, hi, r, true)
		axis := int(c.below(3))
		checkBox(t, "one last bit greater", beside(lo, axis, -1), beside(hi, (axis+1)%3, 1), r, true)
		far := c.grid(2, e)
		lower, _ := bounds(impl.Tri{A: lo, B: far, C: far})
		_, upper := bounds(impl.Tri{A: hi, B: far, C: far})
		checkBox(t, "a greater box", lower, upper, r, true)
	}
	if hits < 300 {
		t.Errorf("too few hits: %d", hits)
	}
}

// TestP10PointsThatNoFloatHolds aims at triangles that lie in a face of their
// box, so that the ray is in the box at one point only, which is no float.
func TestP10PointsThatNoFloatHolds(t *testing.T) {
	var c chance
	for range 300 {
		x, y, h := c.float(1<<20, -10), c.float(1<<20, -10), c.float(1<<20, -10)
		tri := impl.Tri{A: point(x, y, h), B: point(x+1, y, h), C: point(x, y+1, h)}
		r := ray(x, y, h+3, 1, 1, -7)
		checkDistance(t, "a face", tri, r, big.NewRat(3, 7))
		edge := impl.Tri{A: point(x, y, h), B: point(x+1, y+1, h), C: point(x+1, y, h-1)}
		checkDistance(t, "an edge", edge, r, big.NewRat(3, 7))
	}
}

func TestBoxHitWantsABoxAndAProperRay(t *testing.T) {
	bad := func(what string, lo, hi impl.Point, r impl.Ray) {
		t.Helper()
		if in, code := impl.BoxHit(lo, hi, r); code != impl.CodeBad || in {
			t.Errorf("%s: %v, code %d", what, in, code)
		}
	}
	lo, hi, r := point(-1, -1, -1), point(1, 1, 1), ray(0, 0, 0, 1, 1, 1)
	for place := range 12 {
		for _, wrong := range wrongFloats() {
			p := [4]impl.Point{lo, hi, r.O, r.D}
			p[place/3] = with(p[place/3], place%3, wrong)
			bad(fmt.Sprintf("%#x at %d", wrong, place), p[0], p[1], impl.Ray{O: p[2], D: p[3]})
		}
	}
	for signs := range uint32(8) {
		zero := impl.Point{X: signs << 31, Y: signs >> 1 << 31, Z: signs >> 2 << 31}
		bad("a direction of zeros", lo, hi, impl.Ray{D: zero})
	}
	for axis := range 3 {
		for _, p := range []impl.Point{lo, hi, {}, {X: 1, Y: 1, Z: 1}} {
			bad("hi one last bit less", p, beside(p, axis, -1), r)
			bad("lo one last bit more", beside(p, axis, 1), p, r)
			bad("hi less, far from the ray", beside(p, axis, 1), p, ray(9, 9, 9, 1, 0, 0))
		}
		bad("hi much less", with(lo, axis, greatestFloat), with(hi, axis, greatestFloat|signBit), r)
	}
}
