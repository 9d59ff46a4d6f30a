package tests

import (
	"fmt"
	"math"
	"testing"

	"loop.example/s01121/impl"
)

// checkExchanges asks for the sign itself, and for each exchange of two points.
func checkExchanges(t *testing.T, what string, p [4]impl.Point) {
	t.Helper()
	checkOrient(t, what, p[0], p[1], p[2], p[3])
	sign, _ := impl.Orient(p[0], p[1], p[2], p[3])
	for i := range p {
		for j := range i {
			q := p
			q[i], q[j] = p[j], p[i]
			if other, code := impl.Orient(q[0], q[1], q[2], q[3]); code != impl.CodeOK || other != -sign {
				t.Errorf("%s, points %d and %d exchanged: %d, code %d, but it was %d", what, j, i, other, code, sign)
			}
		}
	}
}

func TestP6OrientOfAllKinds(t *testing.T) {
	points := chosenPoints()
	for i, a := range points {
		for j, b := range points {
			for k, c := range points[:j] {
				for l, d := range points[:i] {
					checkOrient(t, fmt.Sprint(i, j, k, l), a, b, c, d)
				}
			}
		}
	}
}

func TestP6Exchanges(t *testing.T) {
	points := chosenPoints()
	for i := range points {
		for j := range i {
			for k := range j {
				for l := range k {
					checkExchanges(t, fmt.Sprint(i, j, k, l), [4]impl.Point{points[i], points[j], points[k], points[l]})
				}
			}
		}
	}
}

func TestP6ByHand(t *testing.T) {
	const most, least = math.MaxFloat32, math.SmallestNonzeroFloat32
	o, x, y, z := point(0, 0, 0), point(1, 0, 0), point(0, 1, 0), point(0, 0, 1)
	for _, c := range []struct {
		name       string
		a, b, c, d impl.Point
		want       int
	}{
		{"the axes", o, x, y, z, 1},
		{"the axes, below", o, x, y, point(0, 0, -1), -1},
		{"the axes, from afar", point(7, 7, 7), point(8, 7, 7), point(7, 8, 7), point(7, 7, 8), 1},
		{"in the plane", o, x, y, point(-5, 3, 0), 0},
		{"in the plane, with a negative zero", o, x, y, impl.Point{X: 0x40000000, Y: 0x40000000, Z: signBit}, 0},
		{"the least above", o, x, y, point(0, 0, least), 1},
		{"the least below", o, x, y, point(0, 0, -least), -1},
		{"the least above, far away", o, x, y, point(most, -most, least), 1},
		{"the greatest below the normal ones", o, x, y, impl.Point{Z: leastNormal - 1}, 1},
		{"all of the least", o, point(least, 0, 0), point(0, least, 0), point(0, 0, least), 1},
		{"all of the greatest", point(-most, -most, -most), point(most, -most, -most), point(-most, most, -most), point(-most, -most, most), 1},
		{"the greatest and the least", point(-most, -most, -most), point(most, most, most), point(most, most, -most), point(0, least, 0), 1},
		{"the greatest in one plane", point(-most, -most, -most), point(most, most, most), point(most, most, -most), point(least, least, 0), 0},
		{"two fall together", x, x, y, z, 0},
		{"the last on the first", x, y, z, x, 0},
		{"the last on the second", x, y, z, y, 0},
		{"the last on the third", x, y, z, z, 0},
		{"all fall together", z, z, z, z, 0},
		{"zeros of both signs fall together", o, otherZeros(o), y, z, 0},
		{"three in one line", o, point(1, 2, 3), point(2, 4, 6), point(5, -1, 1), 0},
		{"the last beside the slanting plane, above", x, y, z, beside(x, 1, 1), 1},
		{"the last beside the slanting plane, below", x, y, z, beside(x, 2, -1), -1},
	} {
		if sign, code := impl.Orient(c.a, c.b, c.c, c.d); code != impl.CodeOK || sign != c.want {
			t.Errorf("%s: %d, code %d, want %d", c.name, sign, code, c.want)
		}
		checkExchanges(t, c.name, [4]impl.Point{c.a, c.b, c.c, c.d})
	}
}

// inPlane has four points of one plane, each a small whole number times 2^e in
// each coordinate, the last one far from the others or near to them.
func inPlane(c *chance, e int, far uint32) [4]impl.Point {
	var origin, u, v [3]float32
	for i := range 3 {
		origin[i], u[i], v[i] = c.float(50, e), c.float(9, e), c.float(9, e)
	}
	at := func(i, j float32) impl.Point {
		return point(origin[0]+i*u[0]+j*v[0], origin[1]+i*u[1]+j*v[1], origin[2]+i*u[2]+j*v[2])
	}
	return [4]impl.Point{at(0, 0), at(1, 0), at(0, 1), at(c.float(far, 0), c.float(far, 0))}
}

func TestP6OnePlaneAndOneLastBitBeside(t *testing.T) {
	var c chance
	for _, e := range []int{-149, -130, -60, -3, 0, 17, 80, 105} {
		for _, far := range []uint32{2, 300, 100000} {
			for range 20 {
				p := inPlane(&c, e, far)
				if sign, code := impl.Orient(p[0], p[1], p[2], p[3]); code != impl.CodeOK || sign != 0 {
					t.Errorf("%x lie in one plane: %d, code %d", p, sign, code)
				}
				checkBeside(t, p)
			}
		}
	}
}

// checkBeside moves the last point, then the first, by one float on each axis:
// it leaves the plane exactly if the axis doesn't lie in it.
func checkBeside(t *testing.T, p [4]impl.Point) {
	t.Helper()
	normal := exactNormal(impl.Tri{A: p[0], B: p[1], C: p[2]})
	for axis := range 3 {
		for _, n := range []int{-1, 1} {
			d := beside(p[3], axis, n)
			if sign, code := impl.Orient(p[0], p[1], p[2], d); code != impl.CodeOK || sign != n*normal[axis].sign() {
				t.Errorf("%x, the last one %d beside on axis %d: %d, code %d", p, n, axis, sign, code)
			}
			checkExchanges(t, "beside the plane", [4]impl.Point{p[0], p[1], p[2], d})
			checkExchanges(t, "the first beside the plane", [4]impl.Point{beside(p[0], axis, n), p[1], p[2], p[3]})
		}
	}
}

func TestP6ZerosOfBothSigns(t *testing.T) {
	points := []impl.Point{point(0, 0, 0), point(1, 0, 0), point(0, 1, 0), point(0, 0, 1), {Z: 1}, point(0, -3, 2)}
	for i, a := range points {
		for j, b := range points {
			for k, c := range points {
				for l, d := range points {
					p := [4]impl.Point{a, b, c, d}
					want, _ := impl.Orient(a, b, c, d)
					for n := range p {
						p[n] = otherZeros(p[n])
						checkOrient(t, fmt.Sprint(i, j, k, l), p[0], p[1], p[2], p[3])
						if sign, code := impl.Orient(p[0], p[1], p[2], p[3]); code != impl.CodeOK || sign != want {
							t.Errorf("%x: %d, code %d, but with other zeros it was %d", p, sign, code, want)
						}
					}
				}
			}
		}
	}
}

func TestOrientWantsFinitePoints(t *testing.T) {
	for _, wrong := range wrongFloats() {
		for place := range 12 {
			p := [4]impl.Point{point(0, 0, 0), point(1, 0, 0), point(0, 1, 0), point(0, 0, 1)}
			p[place/3] = with(p[place/3], place%3, wrong)
			if sign, code := impl.Orient(p[0], p[1], p[2], p[3]); code != impl.CodeBad || sign != 0 {
				t.Errorf("%#x at %d: %d, code %d", wrong, place, sign, code)
			}
		}
	}
}
