package tests

import (
	"fmt"
	"slices"
	"testing"

	"loop.example/s01121/impl"
)

func smallMatrix(numbers ...int64) []impl.Dyadic {
	m := make([]impl.Dyadic, len(numbers))
	for i, n := range numbers {
		m[i] = dy(n, 0)
	}
	return m
}

func diagonal(a, b, c impl.Dyadic) []impl.Dyadic {
	return []impl.Dyadic{a, {}, {}, {}, b, {}, {}, {}, c}
}

func exchanged(m []impl.Dyadic, first, second int) []impl.Dyadic {
	answer := slices.Clone(m)
	for i := range 3 {
		answer[3*first+i], answer[3*second+i] = m[3*second+i], m[3*first+i]
	}
	return answer
}

// matrices take nine dyadics each from all of dyadics, in ever other steps.
func matrices() [][]impl.Dyadic {
	all := dyadics()
	list := [][]impl.Dyadic{
		smallMatrix(1, 2, 3, 4, 5, 6, 7, 8, 10), smallMatrix(2, -7, 1, 8, 2, -8, 1, 8, 2), smallMatrix(3, 1, 4, 1, 5, 9, 2, 6, -5),
		smallMatrix(0, 0, 1, 0, 1, 0, 1, 0, 0), smallMatrix(1, 2, 3, 4, 5, 6, 7, 8, 9), make([]impl.Dyadic, 9),
	}
	for step := 1; step <= 40; step++ {
		m := make([]impl.Dyadic, 9)
		for i := range m {
			m[i] = all[(step*step+i*(step+3))%len(all)]
		}
		list = append(list, m)
	}
	return list
}

func TestP5Determinants(t *testing.T) {
	for i, m := range matrices() {
		got, code := impl.DyDet(m)
		checkDyadic(t, fmt.Sprintf("matrix %d", i), got, code, exactDet(m))
	}
}

func TestP5DeterminantsOfFloats(t *testing.T) {
	seed := uint32(7)
	for i := range 500 {
		m := make([]impl.Dyadic, 9)
		for j := range m {
			seed = seed*1664525 + 1013904223
			m[j], _ = impl.DyOf(seed ^ seed>>15)
		}
		got, code := impl.DyDet(m)
		checkDyadic(t, fmt.Sprintf("matrix %d", i), got, code, exactDet(m))
	}
}

// TestP5EveryPlaceCounts asks for each of the six products alone, by its sign.
func TestP5EveryPlaceCounts(t *testing.T) {
	for _, c := range []struct {
		columns [3]int
		sign    int64
	}{
		{[3]int{0, 1, 2}, 1}, {[3]int{1, 2, 0}, 1}, {[3]int{2, 0, 1}, 1},
		{[3]int{2, 1, 0}, -1}, {[3]int{0, 2, 1}, -1}, {[3]int{1, 0, 2}, -1},
	} {
		m := make([]impl.Dyadic, 9)
		for row, column := range c.columns {
			m[3*row+column] = dy(int64(3+2*row), row-7)
		}
		want := dy(3*5*7*c.sign, -7-6-5)
		if got, code := impl.DyDet(m); code != impl.CodeOK || !sameDyadic(got, want) {
			t.Errorf("columns %v: %v, code %d", c.columns, got, code)
		}
	}
}

func TestP5ExchangedRows(t *testing.T) {
	for i, m := range matrices() {
		det, code := impl.DyDet(m)
		for _, rows := range [][2]int{{0, 1}, {0, 2}, {1, 2}} {
			other, otherCode := impl.DyDet(exchanged(m, rows[0], rows[1]))
			if otherCode != code || !sameDyadic(other, negativeDyadic(det)) {
				t.Errorf("matrix %d, rows %v: code %d and %d", i, rows, code, otherCode)
			}
			twice := slices.Clone(m)
			copy(twice[3*rows[1]:3*rows[1]+3], m[3*rows[0]:])
			if zero, code := impl.DyDet(twice); code != impl.CodeOK || !isZeroDyadic(zero) {
				t.Errorf("matrix %d, rows %v made equal: code %d", i, rows, code)
			}
		}
	}
}

func TestP5LimitsOfDeterminants(t *testing.T) {
	full := filled(impl.MaxLimbs, ones)
	top, bottom, one := dy(1, impl.MaxExp), dy(1, -impl.MaxExp), dy(1, 0)
	wide := times2(full, impl.MaxExp)
	for _, c := range []struct {
		name string
		m    []impl.Dyadic
		want impl.Dyadic
		code int
	}{
		{"up and down again", diagonal(top, top, bottom), top, impl.CodeOK},
		{"down and up again", diagonal(bottom, bottom, top), bottom, impl.CodeOK},
		{"up and down by all three", diagonal(top, dy(3, -15000), dy(5, -15000)), dy(15, -10000), impl.CodeOK},
		{"one too far up", diagonal(top, dy(1, 1), one), impl.Dyadic{}, impl.CodeLimit},
		{"one too far down", diagonal(one, bottom, dy(1, -1)), impl.Dyadic{}, impl.CodeLimit},
		{"all up", diagonal(top, top, top), impl.Dyadic{}, impl.CodeLimit},
		{"all down", diagonal(bottom, bottom, bottom), impl.Dyadic{}, impl.CodeLimit},
		{"all up, of no length", diagonal(top, top, dy(0, impl.MaxExp)), impl.Dyadic{}, impl.CodeOK},
		{"MaxLimbs limbs", diagonal(times2(full, 3), dy(2, 0), dy(-2, 0)), times2(negative(full), 5), impl.CodeOK},
		{"more than MaxLimbs limbs", diagonal(times2(full, 3), dy(3, 0), one), impl.Dyadic{}, impl.CodeLimit},
		{"1536 limbs", diagonal(wide, wide, wide), impl.Dyadic{}, impl.CodeLimit},
		{"equal rows of full ones", []impl.Dyadic{wide, wide, wide, wide, wide, wide, top, bottom, one}, impl.Dyadic{}, impl.CodeOK},
		{"great ones that fall away", []impl.Dyadic{top, top, {}, top, top, {}, {}, {}, wide}, impl.Dyadic{}, impl.CodeOK},
		{"small ones beside great ones that fall away", []impl.Dyadic{wide, wide, one, wide, wide, {}, bottom, {}, {}}, times2(negative(full), 0), impl.CodeOK},
		{"far from each other", []impl.Dyadic{top, bottom, {}, negativeDyadic(bottom), top, {}, {}, {}, bottom}, impl.Dyadic{}, impl.CodeLimit},
	} {
		if got, code := impl.DyDet(c.m); code != c.code || !sameDyadic(got, c.want) {
			t.Errorf("%s: code %d, %d limbs and E %d", c.name, code, len(got.M.Mag), got.E)
		}
		got, code := impl.DyDet(c.m)
		checkDyadic(t, c.name, got, code, exactDet(c.m))
	}
}

func TestDyDetWantsNine(t *testing.T) {
	for n := range 20 {
		if n == 9 {
			continue
		}
		m := slices.Repeat([]impl.Dyadic{dy(1, 0)}, n)
		if got, code := impl.DyDet(m); code != impl.CodeBad || !isZeroDyadic(got) {
			t.Errorf("%d: code %d", n, code)
		}
	}
	if got, code := impl.DyDet(nil); code != impl.CodeBad || !isZeroDyadic(got) {
		t.Errorf("nil: code %d", code)
	}
}

func TestDyDetWantsValidDyadics(t *testing.T) {
	for i, wrong := range wrongDyadics() {
		for place := range 9 {
			m := make([]impl.Dyadic, 9)
			m[place] = wrong
			if got, code := impl.DyDet(m); code != impl.CodeBad || !isZeroDyadic(got) {
				t.Errorf("wrong dyadic %d at %d: code %d", i, place, code)
			}
		}
	}
}
