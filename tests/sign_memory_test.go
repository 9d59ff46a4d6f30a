package tests

import (
	"testing"

	"loop.example/s01121/impl"
)

// TestSignsKeepTheirArguments asks twice, with every call in between, and with
// points that lie in one list.
func TestSignsKeepTheirArguments(t *testing.T) {
	points := append(chosenPoints(), impl.Point{X: 0x7f800000}, impl.Point{Y: 0xffc00001, Z: signBit})
	list, all := withRoom(points, point(9, 9, 9))
	ask := func(i int) [8]int {
		at := func(k int) impl.Point { return list[(i*k+k*k)%len(list)] }
		tri, r := impl.Tri{A: at(1), B: at(2), C: at(3)}, impl.Ray{O: at(4), D: at(5)}
		triWas, rWas := tri, r
		var got [8]int
		got[0], got[1] = impl.FloatOrder(at(1).X, at(2).Y)
		got[2], got[3] = impl.Orient(at(1), at(2), at(3), at(4))
		got[4], got[5] = impl.Across(tri, r)
		flat, code := impl.Flat(tri)
		if flat {
			got[6] = 1
		}
		got[7] = code
		if tri != triWas || r != rWas {
			t.Errorf("asked %d: %x and %x became %x and %x", i, triWas, rWas, tri, r)
		}
		return got
	}
	checkAskedTwice(t, 500, ask)
	for i, p := range all {
		if i < len(points) && p != points[i] || i >= len(points) && p != point(9, 9, 9) {
			t.Errorf("point %d was changed", i)
		}
	}
}

// checkAskedTwice asks n things, then all again the other way round.
func checkAskedTwice[T comparable](t *testing.T, n int, ask func(int) T) {
	t.Helper()
	first := make([]T, n)
	for i := range first {
		first[i] = ask(i)
	}
	for i := n - 1; i >= 0; i-- {
		if second := ask(i); second != first[i] {
			t.Errorf("asked %d twice: %v, then %v", i, first[i], second)
		}
	}
}
