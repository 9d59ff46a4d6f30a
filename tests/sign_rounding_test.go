package tests

import (
	"cmp"
	"math"
	"math/big"
	"testing"

	"loop.example/s01121/impl"
)

// Here the document's formulas are worked in float64 without any bound, to find
// inputs at which that alone gives a wrong sign.

type floats [3]float64

func floatsOf(p impl.Point) floats {
	var v floats
	for i, c := range coordinates(&p) {
		v[i] = float64(math.Float32frombits(*c))
	}
	return v
}

func (v floats) minus(o floats) floats {
	return floats{v[0] - o[0], v[1] - o[1], v[2] - o[2]}
}

func (v floats) cross(o floats) floats {
	var x floats
	for i := range x {
		j, k := (i+1)%3, (i+2)%3
		x[i] = float64(v[j]*o[k]) - float64(v[k]*o[j])
	}
	return x
}

func (v floats) dot(o floats) float64 {
	return float64(v[0]*o[0]) + float64(v[1]*o[1]) + float64(v[2]*o[2])
}

func roughNormal(t impl.Tri) floats {
	a := floatsOf(t.A)
	return floatsOf(t.B).minus(a).cross(floatsOf(t.C).minus(a))
}

func roughVolume(p [4]impl.Point) float64 {
	return roughNormal(impl.Tri{A: p[0], B: p[1], C: p[2]}).dot(floatsOf(p[3]).minus(floatsOf(p[0])))
}

// astray counts how a rough sign differs from the exact one.
type astray struct {
	toZero, fromZero, pastZero int
}

func (a *astray) count(rough float64, sign int) {
	switch was := cmp.Compare(rough, 0); {
	case was == sign:
	case was == 0:
		a.toZero++
	case sign == 0:
		a.fromZero++
	default:
		a.pastZero++
	}
}

func (a astray) check(t *testing.T) {
	t.Helper()
	if a.toZero < 20 || a.fromZero < 20 || a.pastZero < 20 {
		t.Errorf("too few inputs at which float64 is wrong: %+v", a)
	}
}

// spread has numbers whose differences float64 must round: some small, some of
// them 2^gap as great.
func (c *chance) spread(gap int) impl.Point {
	var x [3]float32
	for i := range x {
		x[i] = c.float(4, -3) + c.float(1, gap)
	}
	return point(x[0], x[1], x[2])
}

// line has three points of one line through zero, the last one 2^gap as far.
func (c *chance) line(gap int) [3]impl.Point {
	x, y, z := c.float(1<<22, -20), c.float(1<<22, -20), c.float(1<<22, -20)
	k := float32(math.Ldexp(1, gap))
	return [3]impl.Point{point(x, y, z), point(-2*x, -2*y, -2*z), point(k*x, k*y, k*z)}
}

func TestP6WhereFloat64Rounds(t *testing.T) {
	var c chance
	var wrong astray
	check := func(p [4]impl.Point) {
		wrong.count(roughVolume(p), exactVolume(p[0], p[1], p[2], p[3]).sign())
		checkExchanges(t, "rounded", p)
	}
	for gap := 20; gap <= 110; gap += 3 {
		for range 300 {
			check([4]impl.Point{c.spread(gap), c.spread(gap), c.spread(gap), c.spread(gap)})
			l := c.line(gap)
			check([4]impl.Point{l[0], l[1], l[2], c.spread(gap)})
		}
	}
	wrong.check(t)
}

func TestAcrossWhereFloat64Rounds(t *testing.T) {
	var c chance
	var wrong astray
	check := func(tri impl.Tri, d impl.Point) {
		if !isZeroVector(d) {
			wrong.count(roughNormal(tri).dot(floatsOf(d)), exactRise(tri, d).sign())
			checkAcross(t, "rounded", tri, d)
		}
	}
	for gap := 20; gap <= 110; gap += 3 {
		for range 300 {
			check(impl.Tri{A: c.spread(gap), B: c.spread(gap), C: c.spread(gap)}, c.spread(gap))
			l := c.line(gap)
			check(impl.Tri{A: l[0], B: l[1], C: l[2]}, c.spread(gap))
		}
	}
	wrong.check(t)
}

func TestFlatWhereFloat64Rounds(t *testing.T) {
	var c chance
	var toLine, fromLine int
	check := func(tri impl.Tri) {
		rough, flat := roughNormal(tri) == floats{}, exactFlat(tri)
		if rough && !flat {
			toLine++
		}
		if flat && !rough {
			fromLine++
		}
		checkFlat(t, "rounded", tri)
	}
	for gap := 20; gap <= 110; gap += 3 {
		for range 100 {
			check(impl.Tri{A: c.spread(gap), B: c.spread(gap), C: c.spread(gap)})
			l := c.line(gap)
			check(impl.Tri{A: l[0], B: l[1], C: l[2]})
		}
	}
	if toLine < 20 || fromLine < 20 {
		t.Errorf("too few inputs at which float64 is wrong: %d and %d", toLine, fromLine)
	}
}

func twoTo(n int) float32 {
	return float32(math.Ldexp(1, n))
}

// checkRounded asks for an input whose sign in float64 is rough; where the
// first point is zero, the others make a triangle and a direction as well.
func checkRounded(t *testing.T, what string, p [4]impl.Point, rough, want int) {
	t.Helper()
	if was := cmp.Compare(roughVolume(p), 0); was != rough {
		t.Errorf("%s: the sign in float64 is %d, want %d", what, was, rough)
	}
	if sign, code := impl.Orient(p[0], p[1], p[2], p[3]); code != impl.CodeOK || sign != want {
		t.Errorf("%s: Orient is %d, code %d, want %d", what, sign, code, want)
	}
	checkExchanges(t, what, p)
	if isZeroVector(p[0]) {
		tri, r := impl.Tri{A: p[0], B: p[1], C: p[2]}, impl.Ray{D: p[3]}
		if sign, code := impl.Across(tri, r); code != impl.CodeOK || sign != want {
			t.Errorf("%s: Across is %d, code %d, want %d", what, sign, code, want)
		}
	}
}

func TestP6OneStepThatFloat64Rounds(t *testing.T) {
	far, mid := twoTo(60), twoTo(50)
	for _, c := range []struct {
		name        string
		p           [4]impl.Point
		rough, want int
	}{
		{"differences, to zero", [4]impl.Point{point(far, far, far), point(1, 0, 0), point(0, 1, 0), point(0, 0, 1)}, 0, -1},
		{"differences, past zero", [4]impl.Point{point(2.5, 1.875, 0), point(twoTo(54), twoTo(54), 0), point(twoTo(55), twoTo(55), 0), point(2.5, 1.875, 1)}, 1, -1},
		{"a sum in the cross product, to zero", [4]impl.Point{{}, point(mid, mid, 1), point(0, 1, mid), point(1, 1, 0)}, 0, -1},
		{"a sum in the dot product, to zero", [4]impl.Point{{}, point(0, 1, 1), point(far, 0, 1), point(1, 1, 1)}, 0, 1},
	} {
		checkRounded(t, c.name, c.p, c.rough, c.want)
	}
}

// coprime answers i and j with i * m - j * n = 1, for whole numbers without a
// common factor.
func coprime(m, n int64) (i, j int64) {
	i = new(big.Int).ModInverse(big.NewInt(m), big.NewInt(n)).Int64()
	return i, (i*m - 1) / n
}

// TestP6ProductsThatFloat64Rounds has normals of 48 bits: its X times m and its
// Y times n are 72 bits long and differ by one. In float64 that one is lost.
func TestP6ProductsThatFloat64Rounds(t *testing.T) {
	const base = 0xfffffd
	for _, c := range []struct{ m, n, k int64 }{
		{0xabcdef, 0xabcdf1, 0x876543}, {0xffffff, 0xfffffe, 0x912345}, {0x800003, 0xfedcba, 0xa00001}, {0x9d3f21, 0x87654d, 0xcccccd},
	} {
		i, j := coprime(c.m, c.n)
		x, y := i+c.k*c.n, j+c.k*c.m
		b := [2]int64{y/base + 1, x/base + 1}
		e := [2]int64{b[0]*base - y, b[1]*base - x}
		z := float64(b[0]*e[1]) - float64(b[1]*e[0])
		p := [4]impl.Point{{}, point(float32(b[0]), float32(b[1]), 1), point(float32(e[0]), float32(e[1]), base), point(float32(c.m), float32(c.n), 0)}
		checkRounded(t, "products, to zero", p, 0, 1)
		p[3].Z = math.Float32bits(float32(-0.5 / z))
		checkRounded(t, "products, past zero", p, -1, 1)
		p[3].Z = math.Float32bits(float32(-1.5 / z))
		checkRounded(t, "products, rightly", p, -1, -1)
	}
}
