package tests

import (
	"math"
	"math/big"
	"testing"

	"loop.example/s01121/impl"
)

func point(x, y, z float32) impl.Point {
	return impl.Point{X: math.Float32bits(x), Y: math.Float32bits(y), Z: math.Float32bits(z)}
}

func coordinates(p *impl.Point) [3]*uint32 {
	return [3]*uint32{&p.X, &p.Y, &p.Z}
}

// with is p with another coordinate on one axis.
func with(p impl.Point, axis int, bits uint32) impl.Point {
	*coordinates(&p)[axis] = bits
	return p
}

// steps goes to the float that is n further up or down; the zeros are one step.
func steps(bits uint32, n int) uint32 {
	place := int(bits &^ signBit)
	if bits >= signBit {
		place = -place
	}
	place += n
	if place < 0 {
		return uint32(-place) | signBit
	}
	return uint32(place)
}

// beside is p with one coordinate n floats further up or down.
func beside(p impl.Point, axis, n int) impl.Point {
	return with(p, axis, steps(*coordinates(&p)[axis], n))
}

// otherZeros is p with the sign of each zero changed.
func otherZeros(p impl.Point) impl.Point {
	for _, c := range coordinates(&p) {
		if *c&^signBit == 0 {
			*c ^= signBit
		}
	}
	return p
}

// valuesOf are the coordinates of the points, one point after another.
func valuesOf(points ...impl.Point) []exact {
	var all []exact
	for _, p := range points {
		all = append(all, valueOf(p.X), valueOf(p.Y), valueOf(p.Z))
	}
	return all
}

// exactVolume takes no differences of points, unlike the document's formula:
// it is the determinant of four rows of four, the last column all ones.
func exactVolume(a, b, c, d impl.Point) exact {
	det := func(p, q, r impl.Point) exact { return detOf(valuesOf(p, q, r)) }
	return det(b, c, d).minus(det(a, c, d)).plus(det(a, b, d)).minus(det(a, b, c))
}

// exactNormal is A x B + B x C + C x A.
func exactNormal(t impl.Tri) [3]exact {
	var sum [3]exact
	for i := range sum {
		sum[i] = exact{new(big.Int), 0}
	}
	for _, edge := range [3][2]impl.Point{{t.A, t.B}, {t.B, t.C}, {t.C, t.A}} {
		p, q := valuesOf(edge[0]), valuesOf(edge[1])
		for i := range sum {
			j, k := (i+1)%3, (i+2)%3
			sum[i] = sum[i].plus(p[j].times(q[k])).minus(p[k].times(q[j]))
		}
	}
	return sum
}

func exactFlat(t impl.Tri) bool {
	n := exactNormal(t)
	return n[0].sign() == 0 && n[1].sign() == 0 && n[2].sign() == 0
}

func exactRise(t impl.Tri, d impl.Point) exact {
	n, v := exactNormal(t), valuesOf(d)
	return n[0].times(v[0]).plus(n[1].times(v[1])).plus(n[2].times(v[2]))
}

func checkOrient(t *testing.T, what string, a, b, c, d impl.Point) {
	t.Helper()
	want := exactVolume(a, b, c, d).sign()
	if sign, code := impl.Orient(a, b, c, d); code != impl.CodeOK || sign != want {
		t.Errorf("%s: Orient of %x, %x, %x, %x is %d, code %d, want %d", what, a, b, c, d, sign, code, want)
	}
}

func checkFlat(t *testing.T, what string, tri impl.Tri) {
	t.Helper()
	want := exactFlat(tri)
	if flat, code := impl.Flat(tri); code != impl.CodeOK || flat != want {
		t.Errorf("%s: Flat of %x is %v, code %d, want %v", what, tri, flat, code, want)
	}
}

func checkAcross(t *testing.T, what string, tri impl.Tri, d impl.Point) {
	t.Helper()
	want := exactRise(tri, d).sign()
	for _, o := range []impl.Point{{}, point(-3, 0.5, math.MaxFloat32)} {
		if sign, code := impl.Across(tri, impl.Ray{O: o, D: d}); code != impl.CodeOK || sign != want {
			t.Errorf("%s: Across of %x and %x is %d, code %d, want %d", what, tri, d, sign, code, want)
		}
	}
}

// chosenPoints have both zeros, floats below the normal ones, the least and the
// greatest ones, and ordinary ones; some lie in one line or plane.
func chosenPoints() []impl.Point {
	const most, least = math.MaxFloat32, math.SmallestNonzeroFloat32
	return []impl.Point{
		point(0, 0, 0), point(1, 0, 0), point(0, 1, 0), point(1, 1, 0), point(3, -2, 0.5), point(0.1, 0.2, 0.3),
		{X: signBit, Y: 0x3f800000, Z: signBit}, {X: 1, Y: signBit, Z: signBit | 1}, {X: leastNormal - 1, Y: leastNormal, Z: 1},
		point(most, most, -most), point(-most, 1, most), point(most, least, 0), point(1e20, -1e-20, 1),
	}
}

// chance answers numbers below n that look like chance but are always the same.
type chance uint32

func (c *chance) below(n uint32) uint32 {
	*c = *c*1664525 + 1013904223
	return uint32(uint64(*c) * uint64(n) >> 32)
}

// float is a whole number from -limit to limit, times a power of two.
func (c *chance) float(limit uint32, exponent int) float32 {
	return float32(math.Ldexp(float64(c.below(2*limit+1))-float64(limit), exponent))
}
