package tests

import (
	"math"
	"math/big"
	"testing"

	"loop.example/s01121/impl"
)

// spot is a point or a direction in the library's own fractions.
type spot [3]*big.Rat

func fractionOf(bits uint32) *big.Rat {
	return new(big.Rat).SetFloat64(float64(math.Float32frombits(bits)))
}

func spotOf(p impl.Point) spot {
	return spot{fractionOf(p.X), fractionOf(p.Y), fractionOf(p.Z)}
}

func (p spot) minus(q spot) spot {
	var v spot
	for i := range v {
		v[i] = new(big.Rat).Sub(p[i], q[i])
	}
	return v
}

// along is p + s * d.
func (p spot) along(d spot, s *big.Rat) spot {
	var q spot
	for i := range q {
		q[i] = new(big.Rat).Mul(d[i], s)
		q[i].Add(q[i], p[i])
	}
	return q
}

// area is that of two of the coordinates of p and q.
func area(p, q spot, i, j int) *big.Rat {
	x, y := new(big.Rat).Mul(p[i], q[j]), new(big.Rat).Mul(p[j], q[i])
	return x.Sub(x, y)
}

// det has the three as rows.
func det(a, b, c spot) *big.Rat {
	sum := new(big.Rat)
	for i := range 3 {
		sum.Add(sum, new(big.Rat).Mul(a[i], area(b, c, (i+1)%3, (i+2)%3)))
	}
	return sum
}

func isNowhere(d spot) bool {
	return d[0].Sign() == 0 && d[1].Sign() == 0 && d[2].Sign() == 0
}

// chord is the first and the last number s at which a line is in a triangle,
// negative ones too; nil where there is none.
func chord(t impl.Tri, o, d spot) (from, to *big.Rat) {
	a := spotOf(t.A)
	u, v, w := spotOf(t.B).minus(a), spotOf(t.C).minus(a), o.minus(a)
	for axis := range 3 {
		i, j := (axis+1)%3, (axis+2)%3
		if area(u, v, i, j).Sign() == 0 {
			continue
		}
		if whole := det(u, v, d); whole.Sign() != 0 {
			return crossed(u, v, w, d, whole)
		}
		if det(u, v, w).Sign() != 0 {
			return nil, nil
		}
		return chordInPlane(t, o, d, i, j)
	}
	return nil, nil
}

// crossed has w + s * d = x * u + y * v by Cramer's rule.
func crossed(u, v, w, d spot, whole *big.Rat) (from, to *big.Rat) {
	x, y := new(big.Rat).Quo(det(w, v, d), whole), new(big.Rat).Quo(det(u, w, d), whole)
	if x.Sign() < 0 || y.Sign() < 0 || new(big.Rat).Add(x, y).Cmp(big.NewRat(1, 1)) > 0 {
		return nil, nil
	}
	s := new(big.Rat).Quo(det(u, v, w), whole)
	return s.Neg(s), s
}

// chordInPlane goes by the points that the line has in common with the edges,
// in two coordinates that tell all points of the plane apart.
func chordInPlane(t impl.Tri, o, d spot, i, j int) (from, to *big.Rat) {
	take := func(s *big.Rat) {
		if from == nil || s.Cmp(from) < 0 {
			from = s
		}
		if to == nil || s.Cmp(to) > 0 {
			to = s
		}
	}
	for _, edge := range [3][2]impl.Point{{t.A, t.B}, {t.B, t.C}, {t.C, t.A}} {
		p, q := spotOf(edge[0]), spotOf(edge[1])
		e, w := q.minus(p), p.minus(o)
		if whole := area(d, e, i, j); whole.Sign() != 0 {
			x := new(big.Rat).Quo(area(w, d, i, j), whole)
			if x.Sign() >= 0 && x.Cmp(big.NewRat(1, 1)) <= 0 {
				take(new(big.Rat).Quo(area(w, e, i, j), whole))
			}
		} else if area(w, d, i, j).Sign() == 0 {
			take(reach(w, d))
			take(reach(q.minus(o), d))
		}
	}
	return from, to
}

// reach is s with w = s * d.
func reach(w, d spot) *big.Rat {
	i := 0
	for d[i].Sign() == 0 {
		i++
	}
	return new(big.Rat).Quo(w[i], d[i])
}

// exactDistance is the least distance, or nil.
func exactDistance(t impl.Tri, r impl.Ray) *big.Rat {
	from, to := chord(t, spotOf(r.O), spotOf(r.D))
	if to == nil || to.Sign() < 0 {
		return nil
	}
	if from.Sign() < 0 {
		return new(big.Rat)
	}
	return from
}

func exactOrder(t, u impl.Tri, r impl.Ray) int {
	x, y := exactDistance(t, r), exactDistance(u, r)
	switch {
	case x == nil && y == nil:
		return 0
	case x == nil:
		return 1
	case y == nil:
		return -1
	}
	return x.Cmp(y)
}

// distanceOf is the answer of HitDistance, and nil for 0 and 0. It asks for the
// lowest terms.
func distanceOf(t *testing.T, what string, tri impl.Tri, r impl.Ray) *big.Rat {
	t.Helper()
	num, den, code := impl.HitDistance(tri, r)
	if code != impl.CodeOK || !impl.BigValid(num) || !impl.BigValid(den) || den.Neg {
		t.Fatalf("%s: %v and %v, code %d", what, num, den, code)
	}
	n, d := reference(num), reference(den)
	if d.Sign() == 0 {
		if n.Sign() != 0 {
			t.Errorf("%s: %v / 0", what, n)
		}
		return nil
	}
	if new(big.Int).GCD(nil, nil, n, d).Cmp(big.NewInt(1)) != 0 {
		t.Errorf("%s: %v / %v is not in lowest terms", what, n, d)
	}
	return new(big.Rat).SetFrac(n, d)
}

func sameDistance(x, y *big.Rat) bool {
	return x == nil && y == nil || x != nil && y != nil && x.Cmp(y) == 0
}

// orders are the six orders of the corners.
func orders(t impl.Tri) []impl.Tri {
	return []impl.Tri{
		t, {A: t.B, B: t.C, C: t.A}, {A: t.C, B: t.A, C: t.B},
		{A: t.B, B: t.A, C: t.C}, {A: t.A, B: t.C, C: t.B}, {A: t.C, B: t.B, C: t.A},
	}
}

// bounds is the least box around the triangle.
func bounds(t impl.Tri) (lo, hi impl.Point) {
	value := math.Float32frombits
	lo, hi = t.A, t.A
	for _, p := range []impl.Point{t.B, t.C} {
		for i, c := range coordinates(&p) {
			low, high := coordinates(&lo)[i], coordinates(&hi)[i]
			if value(*c) < value(*low) {
				*low = *c
			}
			if value(*c) > value(*high) {
				*high = *c
			}
		}
	}
	return lo, hi
}

// checkDistance holds Hits and HitDistance, for every order of the corners,
// against a distance, and BoxHit of the triangle's box against a hit.
func checkDistance(t *testing.T, what string, tri impl.Tri, r impl.Ray, want *big.Rat) {
	t.Helper()
	for i, turned := range orders(tri) {
		if hit, code := impl.Hits(turned, r); code != impl.CodeOK || hit != (want != nil) {
			t.Errorf("%s, order %d: Hits of %x and %x is %v, code %d, want the distance %v", what, i, turned, r, hit, code, want)
		}
		if got := distanceOf(t, what, turned, r); !sameDistance(got, want) {
			t.Errorf("%s, order %d: HitDistance of %x and %x is %v, want %v", what, i, turned, r, got, want)
		}
	}
	if want != nil {
		lo, hi := bounds(tri)
		if in, code := impl.BoxHit(lo, hi, r); code != impl.CodeOK || !in {
			t.Errorf("%s: %x meets %x but not its box: code %d", what, r, tri, code)
		}
	}
}

// checkHit does the same with the distance by the library's fractions.
func checkHit(t *testing.T, what string, tri impl.Tri, r impl.Ray) {
	t.Helper()
	want := exactDistance(tri, r)
	checkDistance(t, what, tri, r, want)
	turned := impl.Tri{A: otherZeros(tri.B), B: tri.A, C: otherZeros(tri.C)}
	checkDistance(t, what+", other zeros", turned, impl.Ray{O: otherZeros(r.O), D: otherZeros(r.D)}, want)
}

func checkHitOrder(t *testing.T, what string, tri, other impl.Tri, r impl.Ray, want int) {
	t.Helper()
	if sign, code := impl.HitOrder(tri, other, r); code != impl.CodeOK || sign != want {
		t.Errorf("%s: HitOrder of %x, %x and %x is %d, code %d, want %d", what, tri, other, r, sign, code, want)
	}
	if sign, code := impl.HitOrder(other, tri, r); code != impl.CodeOK || sign != -want {
		t.Errorf("%s: HitOrder of %x, %x and %x is %d, code %d, want %d", what, other, tri, r, sign, code, -want)
	}
}

func ray(ox, oy, oz, dx, dy, dz float32) impl.Ray {
	return impl.Ray{O: point(ox, oy, oz), D: point(dx, dy, dz)}
}

// level has the corners (0, 0), (4, 0) and (0, 4) at a height.
func level(z float32) impl.Tri {
	return impl.Tri{A: point(0, 0, z), B: point(4, 0, z), C: point(0, 4, z)}
}

// grid is a point of whole numbers from -limit to limit, times 2^exponent.
func (c *chance) grid(limit uint32, exponent int) impl.Point {
	return point(c.float(limit, exponent), c.float(limit, exponent), c.float(limit, exponent))
}

func (c *chance) gridTri(limit uint32, exponent int) impl.Tri {
	return impl.Tri{A: c.grid(limit, exponent), B: c.grid(limit, exponent), C: c.grid(limit, exponent)}
}

// gridRay is proper.
func (c *chance) gridRay(limit uint32, exponent int) impl.Ray {
	r := impl.Ray{O: c.grid(limit, exponent), D: c.grid(limit, exponent)}
	for isZeroVector(r.D) {
		r.D = c.grid(limit, exponent)
	}
	return r
}
