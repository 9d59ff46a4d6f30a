package tests

import (
	"slices"
	"testing"

	"loop.example/s01121/impl"
)

// memoryHits have distances of every kind: none, 0, whole numbers, fractions of
// one limb and of many.
func memoryHits() []impl.Ray {
	return []impl.Ray{
		ray(1, 1, 5, 0, 0, 1), ray(1, 1, 0, 0, 0, 1), ray(1, 1, 5, 0, 0, -1), ray(1, 1, 1, 0, 0, -1), ray(1, 1, 5, 0, 0, -3),
		ray(-1, 1, 0, 3, 0, 0), ray(1, 1, 0, 3, 0, 0), ray(1, 1, 0.1, 1e-30, 0, -1e-20), ray(0.1, 0.2, 1e20, 0, 0, -1e-20),
		{O: point(1, 1, 1), D: impl.Point{X: 1, Y: signBit, Z: signBit | 3}}, {O: point(1, 1, 1)},
	}
}

// TestHitDistanceAnswersNewMemory writes over one number of an answer, then over
// the other, and looks at what must not have changed.
func TestHitDistanceAnswersNewMemory(t *testing.T) {
	for i, r := range memoryHits() {
		num, den, code := impl.HitDistance(level(0), r)
		again, below, _ := impl.HitDistance(level(0), r)
		n, d := copyOf(num), copyOf(den)
		scribble(num.Mag, 0x12341234)
		if !same(den, d) {
			t.Errorf("ray %d: both numbers share memory", i)
		}
		scribble(den.Mag, 0x56785678)
		if len(num.Mag) > 0 && slices.Contains(num.Mag[:cap(num.Mag)], 0x56785678) {
			t.Errorf("ray %d: both numbers share memory", i)
		}
		third, last, lastCode := impl.HitDistance(level(0), r)
		if !same(again, n) || !same(third, n) || !same(below, d) || !same(last, d) || lastCode != code {
			t.Errorf("ray %d: two answers share memory", i)
		}
	}
}

// TestHitsKeepTheirArguments asks twice, with every call in between.
func TestHitsKeepTheirArguments(t *testing.T) {
	points := append(chosenPoints(), impl.Point{X: 0x7f800000}, impl.Point{Y: 0xffc00001, Z: signBit})
	ask := func(i int) [9]int {
		at := func(k int) impl.Point { return points[(i*k+k*k)%len(points)] }
		tri, other, r := impl.Tri{A: at(1), B: at(2), C: at(3)}, impl.Tri{A: at(6), B: at(7), C: at(2)}, impl.Ray{O: at(4), D: at(5)}
		triWas, otherWas, rWas := tri, other, r
		var got [9]int
		truth := func(b bool, code int) (int, int) {
			if b {
				return 1, code
			}
			return 0, code
		}
		got[0], got[1] = truth(impl.Hits(tri, r))
		got[2], got[3] = impl.HitOrder(tri, other, r)
		got[4], got[5] = truth(impl.Shadows(other, r, tri, at(8)))
		got[6], got[7] = truth(impl.BoxHit(at(1), at(2), r))
		_, _, got[8] = impl.HitDistance(other, r)
		if tri != triWas || other != otherWas || r != rWas {
			t.Errorf("asked %d: an argument was changed", i)
		}
		return got
	}
	checkAskedTwice(t, 500, ask)
}
