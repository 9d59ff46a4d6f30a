package tests

import (
	"testing"

	"loop.example/s01121/impl"
)

// roughHit works Cramer's rule in float64 without any bound, and takes a ray
// that seems to lie in the plane for one that misses.
func roughHit(tri impl.Tri, o, d floats) (bool, float64) {
	a := floatsOf(tri.A)
	u, v, w := floatsOf(tri.B).minus(a), floatsOf(tri.C).minus(a), o.minus(a)
	whole := u.cross(v).dot(d)
	x, y := w.cross(v).dot(d)/whole, u.cross(w).dot(d)/whole
	s := -u.cross(v).dot(w) / whole
	return whole != 0 && x >= 0 && y >= 0 && x+y <= 1 && s >= 0, s
}

// differences counts how a rough answer differs from the exact one.
type differences struct {
	toYes, toNo int
}

func (d *differences) count(rough, want bool) {
	if rough && !want {
		d.toYes++
	}
	if want && !rough {
		d.toNo++
	}
}

func (d differences) check(t *testing.T) {
	t.Helper()
	if d.toYes < 20 || d.toNo < 20 {
		t.Errorf("too few inputs at which float64 is wrong: %+v", d)
	}
}

// edgeRay goes from somewhere to a point of an edge, as near as floats of 32
// bits allow: it meets it, or goes past it by far less than they tell.
func (c *chance) edgeRay(p, q impl.Point, exponent int) impl.Ray {
	o := c.grid(1<<23, exponent)
	a, b, from := floatsOf(p), floatsOf(q), floatsOf(o)
	part := float64(c.below(1<<20)) / (1 << 20)
	var d floats
	for i := range d {
		d[i] = a[i] + part*(b[i]-a[i]) - from[i]
	}
	return impl.Ray{O: o, D: point(float32(d[0]), float32(d[1]), float32(d[2]))}
}

func TestP7WhereFloat64Rounds(t *testing.T) {
	var c chance
	var wrong differences
	check := func(tri impl.Tri, r impl.Ray) {
		if isZeroVector(r.D) {
			return
		}
		rough, _ := roughHit(tri, floatsOf(r.O), floatsOf(r.D))
		wrong.count(rough, exactDistance(tri, r) != nil)
		checkHit(t, "rounded", tri, r)
	}
	for gap := 20; gap <= 110; gap += 3 {
		for range 20 {
			tri := impl.Tri{A: c.spread(gap), B: c.spread(gap), C: c.spread(gap)}
			check(tri, impl.Ray{O: c.spread(gap), D: c.spread(gap)})
			l := c.line(gap)
			check(impl.Tri{A: l[0], B: l[1], C: c.spread(gap)}, impl.Ray{O: c.spread(gap), D: l[2]})
			check(impl.Tri{A: l[0], B: c.spread(gap), C: c.spread(gap)}, impl.Ray{O: l[2], D: l[1]})
			mixed := c.gridTri(1<<23, gap-60)
			check(mixed, c.edgeRay(mixed.A, mixed.B, gap-60))
		}
	}
	wrong.check(t)
}

// TestP9WhereFloat64Rounds has the hit's point and the light on two sides of a
// triangle's edge or corner, or in its plane, as near as floats allow.
func TestP9WhereFloat64Rounds(t *testing.T) {
	var c chance
	var wrong differences
	check := func(tri impl.Tri, r impl.Ray, hit impl.Tri, light impl.Point) {
		if isZeroVector(r.D) {
			return
		}
		dark, met := checkShadowExactly(t, "rounded", tri, r, hit, light)
		if !met {
			return
		}
		_, s := roughHit(hit, floatsOf(r.O), floatsOf(r.D))
		p, d := floatsOf(r.O), floatsOf(r.D)
		for i := range p {
			p[i] += s * d[i]
		}
		rough, u := roughHit(tri, p, floatsOf(light).minus(p))
		wrong.count(rough && u > 0 && u < 1, dark)
	}
	for gap := 0; gap <= 90; gap += 10 {
		for range 40 {
			hit := c.gridTri(9, gap-60)
			r := c.edgeRay(hit.A, hit.B, gap-75)
			light := c.grid(9, gap-60)
			// One edge is in one plane with the ray and the light, the last corner
			// beside it.
			tri := impl.Tri{A: r.O, B: light, C: c.grid(9, gap-60)}
			check(tri, r, hit, light)
			check(impl.Tri{A: hit.A, B: hit.B, C: tri.C}, r, hit, light)
			check(impl.Tri{A: beside(r.O, int(c.below(3)), 1), B: light, C: tri.C}, r, hit, light)
			check(hit, r, hit, light)
			// The hit's corner, this triangle's corner and the light are in one line.
			l := c.line(gap)
			tri, hit = impl.Tri{A: l[0], B: c.spread(gap), C: c.spread(gap)}, impl.Tri{A: l[1], B: c.spread(gap), C: c.spread(gap)}
			check(tri, impl.Ray{O: l[0], D: l[1]}, hit, l[2])
		}
	}
	wrong.check(t)
}
