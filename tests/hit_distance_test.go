package tests

import (
	"fmt"
	"math"
	"math/big"
	"testing"

	"loop.example/s01121/impl"
)

func TestP8ByHand(t *testing.T) {
	const most, least = math.MaxFloat32, math.SmallestNonzeroFloat32
	slant := impl.Tri{A: point(3, 0, 0), B: point(0, 3, 0), C: point(0, 0, 3)}
	for _, c := range []struct {
		name     string
		tri      impl.Tri
		r        impl.Ray
		num, den int64
	}{
		{"a whole number", level(0), ray(1, 1, 5, 0, 0, -1), 5, 1},
		{"a half", level(0), ray(1, 1, 1, 0, 0, -2), 1, 2},
		{"a third", level(0), ray(0, 0, 1, 1, 1, -3), 1, 3},
		{"two thirds", level(0), ray(1, 1, -4, 0, 0, 6), 2, 3},
		{"twos in both", level(0), ray(1, 1, 0.75, 0, 0, -0.5), 3, 2},
		{"sevenths at a slanting plane", slant, ray(0, 0, 0, 1, 2, 4), 3, 7},
		{"a part of seventy-seven", slant, ray(0, 0, 0, 11, 22, 44), 3, 77},
		{"in lowest terms at a slanting plane", slant, ray(0, 0, 0, 2, 3, 4), 1, 3},
		{"0 is 0 / 1", level(0), ray(1, 1, 0, 0, 0, 7), 0, 1},
		{"0 is 0 / 1 on a corner", slant, ray(3, 0, 0, 5, 9, 2), 0, 1},
		{"0 is 0 / 1 in the plane", level(0), ray(1, 1, 0, 7, 3, 0), 0, 1},
		{"a third in the plane", level(0), ray(-1, 1, 0, 3, 0, 0), 1, 3},
		{"at the slanting edge in the plane", level(0), ray(5, 4, 0, -7, -2, 0), 5, 9},
		{"at a corner in the plane", level(0), ray(-3, -6, 0, 3, 6, 0), 1, 1},
		{"the least floats", impl.Tri{B: point(4*least, 0, 0), C: point(0, 4*least, 0)}, ray(least, least, 5*least, 0, 0, -3*least), 5, 3},
		{"the greatest floats", impl.Tri{A: point(-most, -most, 0), B: point(most, -most, 0), C: point(0, most, 0)}, ray(0, 0, most, 0, most, -most), 1, 1},
		{"nothing is met", level(0), ray(1, 1, 5, 0, 0, 3), missed, 1},
		{"nothing is met in the plane", level(0), ray(9, 9, 0, 1, 1, 0), missed, 1},
	} {
		checkDistance(t, c.name, c.tri, c.r, over(c.num, c.den))
		checkHit(t, c.name, c.tri, c.r)
	}
}

// TestP8GreatAndSmallDistances has distances of hundreds of bits.
func TestP8GreatAndSmallDistances(t *testing.T) {
	const most, least = math.MaxFloat32, math.SmallestNonzeroFloat32
	wide := func(z float32) impl.Tri {
		return impl.Tri{A: point(-most, -most, z), B: point(most, -most, z), C: point(0, most, z)}
	}
	far := new(big.Rat).Quo(fractionOf(greatestFloat), fractionOf(1))
	for _, c := range []struct {
		name string
		tri  impl.Tri
		r    impl.Ray
		want *big.Rat
	}{
		{"the greatest float over the least", wide(most), ray(0, 0, 0, 0, 0, least), far},
		{"twice that", wide(most), ray(0, 0, -most, 0, 0, least), new(big.Rat).Add(far, far)},
		{"the least over the greatest", wide(least), ray(0, 0, 0, 0, 0, most), new(big.Rat).Inv(far)},
		{"the same in the plane", impl.Tri{A: point(-least, 0, 0), B: point(-least, 1, 0), C: point(-1, 0, 0)}, ray(0, 0, 0, -most, 0, 0), new(big.Rat).Inv(far)},
	} {
		checkDistance(t, c.name, c.tri, c.r, c.want)
		checkHit(t, c.name, c.tri, c.r)
	}
}

// TestP8CommonFactors has triangles whose sides put a factor of one to three
// limbs into both numbers, which the answer has not.
func TestP8CommonFactors(t *testing.T) {
	var c chance
	for range 150 {
		x, y := float32(c.below(1<<24)|1), float32(c.below(1<<24)|1)
		tri := impl.Tri{B: point(x, 0, 0), C: point(0, y, 0)}
		h, v := c.below(1<<24)+1, c.below(1<<24)+1
		want := big.NewRat(int64(h), int64(v))
		checkDistance(t, "across", tri, ray(x/4, y/4, float32(h), 0, 0, -float32(v)), want)
		checkDistance(t, "along", tri, ray(-float32(h), y/4, 0, float32(v), 0, 0), want)
		checkDistance(t, "along the edge", tri, ray(0, -float32(h), 0, 0, float32(v), 0), want)
	}
}

// TestP8Mixed aims at triangles from all over, with all bits of the floats.
func TestP8Mixed(t *testing.T) {
	var c chance
	hits := 0
	for i := range 1200 {
		e := int(c.below(120)) - 100
		tri := impl.Tri{A: c.grid(1<<23, e), B: c.grid(1<<23, e), C: c.grid(1<<23, e)}
		r := impl.Ray{O: c.grid(1<<20, e), D: c.grid(1<<23, int(c.below(40))-20)}
		if isZeroVector(r.D) {
			continue
		}
		if exactDistance(tri, r) != nil {
			hits++
		}
		checkHit(t, fmt.Sprint("mixed ", i), tri, r)
	}
	if hits < 100 {
		t.Errorf("too few hits: %d", hits)
	}
}

func TestP8OrderByHand(t *testing.T) {
	const most, least = math.MaxFloat32, math.SmallestNonzeroFloat32
	down := ray(1, 1, 5, 0, 0, -1)
	slant := impl.Tri{A: point(0, 0, 1), B: point(4, 0, -1), C: point(0, 4, 1)}
	upright := impl.Tri{A: point(1, 1, -1), B: point(1, 1, 2), C: point(4, 1, 0)}
	for _, c := range []struct {
		name    string
		tri, by impl.Tri
		r       impl.Ray
		want    int
	}{
		{"the nearer one", level(1), level(0), down, -1},
		{"the same one", level(1), level(1), down, 0},
		{"the same one in another order", level(1), orders(level(1))[4], down, 0},
		{"the least apart", impl.Tri{A: point(0, 0, least), B: point(4, 0, least), C: point(0, 4, least)}, level(0), down, -1},
		{"one met and one behind", level(0), level(9), down, -1},
		{"one met and one beside", level(0), impl.Tri{A: point(7, 7, 1), B: point(8, 7, 1), C: point(7, 8, 1)}, down, -1},
		{"one met and one flat", level(0), impl.Tri{A: point(1, 1, 1), B: point(1, 1, 2), C: point(1, 1, 3)}, down, -1},
		{"neither met", level(9), level(7), down, 0},
		{"neither met, one flat", level(9), impl.Tri{}, down, 0},
		{"equal at the corner of both", level(0), impl.Tri{A: point(0, 0, 0), B: point(-4, 0, 1), C: point(0, -4, 1)}, ray(0, 0, 3, 0, 0, -1), 0},
		{"equal at one point of two planes", level(0), slant, ray(2, 0, 5, 0, 0, -1), 0},
		{"beside that point, nearer", level(0), slant, ray(math.Nextafter32(2, 4), 0, 5, 0, 0, -1), -1},
		{"beside that point, farther", level(0), slant, ray(math.Nextafter32(2, 0), 0, 5, 0, 0, -1), 1},
		{"equal where one is met along its plane", level(2), upright, down, 0},
		{"nearer where one is met along its plane", level(2.5), upright, down, -1},
		{"both from the start", level(0), upright, ray(1, 1, 0, 0, 0, 1), 0},
		{"one from the start", level(0), level(least), ray(1, 1, 0, 0, 0, most), -1},
	} {
		checkHitOrder(t, c.name, c.tri, c.by, c.r, c.want)
		if want := exactOrder(c.tri, c.by, c.r); want != c.want {
			t.Errorf("%s: the fractions say %d", c.name, want)
		}
	}
}

func TestP8OrderOnTheGrid(t *testing.T) {
	var c chance
	count := map[int]int{}
	for range 6000 {
		e := int(c.below(3))*130 - 149
		tri, by, r := c.gridTri(1, e), c.gridTri(1, e), c.gridRay(1, e)
		want := exactOrder(tri, by, r)
		if exactDistance(tri, r) != nil && exactDistance(by, r) != nil {
			count[want]++
		}
		checkHitOrder(t, "on the grid", tri, by, r, want)
	}
	if count[0] < 20 || count[1]+count[-1] < 20 {
		t.Errorf("too few of a kind: %v", count)
	}
}

// TestP8OrderOneLastBitApart goes towards a common corner of two triangles, then
// moves the ray or a corner by one float.
func TestP8OrderOneLastBitApart(t *testing.T) {
	var c chance
	count := map[int]int{}
	check := func(a, b impl.Tri, r impl.Ray) {
		want := exactOrder(a, b, r)
		checkHitOrder(t, "one last bit apart", a, b, r, want)
		count[want]++
	}
	for range 60 {
		a, b, o := c.gridTri(20, 0), c.gridTri(20, 0), c.grid(30, 0)
		b.B = a.B
		v := floatsOf(a.B).minus(floatsOf(o))
		r := impl.Ray{O: o, D: point(float32(v[0]), float32(v[1]), float32(v[2]))}
		if isZeroVector(r.D) {
			continue
		}
		check(a, b, r)
		for axis := range 3 {
			for _, n := range []int{-1, 1} {
				aside := impl.Ray{O: beside(o, axis, n), D: r.D}
				check(a, b, aside)
				check(impl.Tri{A: beside(a.A, axis, n), B: a.B, C: a.C}, a, r)
				check(impl.Tri{A: beside(a.A, axis, n), B: a.B, C: a.C}, a, aside)
			}
		}
	}
	if count[-1] < 50 || count[0] < 50 || count[1] < 50 {
		t.Errorf("too few of a kind: %v", count)
	}
}

// TestP8OrderThatFloat64CannotTell has two planes whose heights above one spot
// differ by a part of 2^-90: those above one axis differ by 1 / (n * (n + 3)),
// those above the other by -1 / ((n + 1) * (n + 2)).
func TestP8OrderThatFloat64CannotTell(t *testing.T) {
	for _, n := range []int64{0xabcdee, 0xfffff1, 0x800009, 0x912347} {
		i, j := coprime(n+3, n)
		k, l := coprime(n+1, n+2)
		plane := func(x, xz, y, yz int64) impl.Tri {
			return impl.Tri{B: point(float32(x), 0, float32(xz)), C: point(0, float32(y), float32(yz))}
		}
		high, low := plane(n, i, n+1, l), plane(n+3, j, n+2, k)
		r := ray(float32(n>>2), float32(n>>2), 1<<26, 0, 0, -1)
		if x, y := roughDistance(high, r), roughDistance(low, r); math.Abs(x-y) > math.Abs(x)*1e-15 {
			t.Errorf("%#x: float64 does tell %v from %v", n, x, y)
		}
		checkHit(t, "two planes", high, r)
		checkHit(t, "two planes", low, r)
		checkHitOrder(t, "two planes", high, low, r, -1)
		if want := exactOrder(high, low, r); want != -1 {
			t.Errorf("%#x: the fractions say %d", n, want)
		}
	}
}

// roughDistance is that of the triangle's plane.
func roughDistance(tri impl.Tri, r impl.Ray) float64 {
	normal := roughNormal(tri)
	return normal.dot(floatsOf(tri.A).minus(floatsOf(r.O))) / normal.dot(floatsOf(r.D))
}
