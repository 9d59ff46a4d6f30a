package tests

import (
	"fmt"
	"math"
	"testing"

	"loop.example/s01121/impl"
)

func TestP5SumsAndProducts(t *testing.T) {
	all := dyadics()
	for i, a := range all {
		x := exactOf(a)
		for j, b := range all {
			y := exactOf(b)
			sum, code := impl.DyAdd(a, b)
			checkDyadic(t, fmt.Sprintf("%d + %d", i, j), sum, code, x.plus(y))
			product, code := impl.DyMul(a, b)
			checkDyadic(t, fmt.Sprintf("%d * %d", i, j), product, code, x.times(y))
			if sign, code := impl.DyCmp(a, b); code != impl.CodeOK || sign != x.minus(y).sign() {
				t.Errorf("%d against %d: %d, code %d", i, j, sign, code)
			}
		}
	}
}

func TestP5SumsAndProductsOfFloats(t *testing.T) {
	for i := uint32(0); i < 4000; i++ {
		a, b := i*0x9e3779b1, i*0x85ebca6b+0x3f800000
		if !finite(a) || !finite(b) {
			continue
		}
		x, _ := impl.DyOf(a)
		y, _ := impl.DyOf(b)
		sum, code := impl.DyAdd(x, y)
		checkDyadic(t, fmt.Sprintf("%#x + %#x", a, b), sum, code, valueOf(a).plus(valueOf(b)))
		product, code := impl.DyMul(x, y)
		checkDyadic(t, fmt.Sprintf("%#x * %#x", a, b), product, code, valueOf(a).times(valueOf(b)))
	}
}

// limitCase names the bounds one by one, so that a fault tells which it is.
type limitCase struct {
	name string
	a, b impl.Dyadic
	want impl.Dyadic
	code int
}

func checkLimits(t *testing.T, call func(a, b impl.Dyadic) (impl.Dyadic, int), cases []limitCase) {
	t.Helper()
	for _, c := range cases {
		if got, code := call(c.a, c.b); code != c.code || !sameDyadic(got, c.want) {
			t.Errorf("%s: code %d, %d limbs and E %d", c.name, code, len(got.M.Mag), got.E)
		}
	}
}

func TestP5LimitsOfSums(t *testing.T) {
	full := filled(impl.MaxLimbs, ones)
	longest := power(16383)
	longest.Mag[0] = 1
	checkLimits(t, impl.DyAdd, []limitCase{
		{"E of MaxExp", dy(1, impl.MaxExp), impl.Dyadic{}, dy(1, impl.MaxExp), impl.CodeOK},
		{"E of one more", dy(1, impl.MaxExp), dy(1, impl.MaxExp), impl.Dyadic{}, impl.CodeLimit},
		{"E of one more in an argument's normal form", dy(2, impl.MaxExp), impl.Dyadic{}, impl.Dyadic{}, impl.CodeLimit},
		{"that, taken back", dy(2, impl.MaxExp), dy(-1, impl.MaxExp), dy(1, impl.MaxExp), impl.CodeOK},
		{"a difference at MaxExp", dy(1, impl.MaxExp), dy(-1, impl.MaxExp), impl.Dyadic{}, impl.CodeOK},
		{"E of -MaxExp", dy(1, -impl.MaxExp), dy(2, -impl.MaxExp), dy(3, -impl.MaxExp), impl.CodeOK},
		{"two at -MaxExp", dy(1, -impl.MaxExp), dy(1, -impl.MaxExp), dy(1, 1-impl.MaxExp), impl.CodeOK},
		{"MaxLimbs limbs", dy(1, 16383), dy(1, 0), times2(longest, 0), impl.CodeOK},
		{"a limb more", dy(1, 16384), dy(1, 0), impl.Dyadic{}, impl.CodeLimit},
		{"-a limb more", dy(-1, 16384), dy(-1, 0), impl.Dyadic{}, impl.CodeLimit},
		{"far from each other", dy(1, impl.MaxExp), dy(1, -impl.MaxExp), impl.Dyadic{}, impl.CodeLimit},
		{"a limb more that is even", times2(full, 0), dy(1, 0), dy(1, 16384), impl.CodeOK},
		{"a limb more that stays", times2(full, 0), dy(1, 16384), impl.Dyadic{}, impl.CodeLimit},
		{"a limb more, taken back", dy(1, 16384), dy(-1, 0), times2(full, 0), impl.CodeOK},
		{"full ones that cancel", times2(full, impl.MaxExp), times2(negative(full), impl.MaxExp), impl.Dyadic{}, impl.CodeOK},
		{"twice the full one", times2(full, 7), times2(full, 7), times2(full, 8), impl.CodeOK},
		{"twice the full one at MaxExp", times2(full, impl.MaxExp), times2(full, impl.MaxExp), impl.Dyadic{}, impl.CodeLimit},
		{"zero far away", dy(5, impl.MaxExp), dy(0, -impl.MaxExp), dy(5, impl.MaxExp), impl.CodeOK},
		{"zero far away, first", dy(0, -impl.MaxExp), dy(5, impl.MaxExp), dy(5, impl.MaxExp), impl.CodeOK},
		{"two zeros", dy(0, impl.MaxExp), dy(0, -impl.MaxExp), impl.Dyadic{}, impl.CodeOK},
	})
}

func TestP5LimitsOfProducts(t *testing.T) {
	full := filled(impl.MaxLimbs, ones)
	long := filled(256, ones)
	high := times2(power(16383), impl.MaxExp)
	checkLimits(t, impl.DyMul, []limitCase{
		{"E of MaxExp", dy(3, impl.MaxExp-1), dy(1, 1), dy(3, impl.MaxExp), impl.CodeOK},
		{"E of one more", dy(3, impl.MaxExp), dy(1, 1), impl.Dyadic{}, impl.CodeLimit},
		{"E of one more by an even M", dy(3, impl.MaxExp), dy(2, 0), impl.Dyadic{}, impl.CodeLimit},
		{"E of -MaxExp", dy(3, 1-impl.MaxExp), dy(1, -1), dy(3, -impl.MaxExp), impl.CodeOK},
		{"E of one less", dy(3, -impl.MaxExp), dy(1, -1), impl.Dyadic{}, impl.CodeLimit},
		{"E of one less in between", dy(3, -impl.MaxExp), dy(2, -1), dy(3, -impl.MaxExp), impl.CodeOK},
		{"the ends", dy(5, impl.MaxExp), dy(7, -impl.MaxExp), dy(35, 0), impl.CodeOK},
		{"twice the upper end", dy(1, impl.MaxExp), dy(1, impl.MaxExp), impl.Dyadic{}, impl.CodeLimit},
		{"twice the lower end", dy(1, -impl.MaxExp), dy(1, -impl.MaxExp), impl.Dyadic{}, impl.CodeLimit},
		{"zero times the upper end", dy(0, impl.MaxExp), dy(1, impl.MaxExp), impl.Dyadic{}, impl.CodeOK},
		{"zero times the lower end", dy(-1, -impl.MaxExp), dy(0, -impl.MaxExp), impl.Dyadic{}, impl.CodeOK},
		{"above the upper end, taken back", high, dy(-1, -16383), dy(-1, impl.MaxExp), impl.CodeOK},
		{"above the upper end by one", high, dy(1, -16382), impl.Dyadic{}, impl.CodeLimit},
		{"1023 limbs in between", times2(power(16383), -16383), times2(power(16382), -16380), dy(1, 2), impl.CodeOK},
		{"a full one that stays", times2(full, 2), dy(-4, -4), times2(negative(full), 0), impl.CodeOK},
		{"a full one three times", times2(full, 2), dy(3, 0), impl.Dyadic{}, impl.CodeLimit},
		{"full times full", times2(full, 0), times2(full, 0), impl.Dyadic{}, impl.CodeLimit},
		{"256 limbs more or less", times2(long, 0), times2(power(16383), -16383), times2(long, 0), impl.CodeOK},
	})
	square := exactOf(times2(long, 0)).times(exactOf(times2(long, 0)))
	got, code := impl.DyMul(times2(long, 1), times2(long, 2))
	checkDyadic(t, "256 limbs squared", got, code, exact{square.m, 3})
	if code != impl.CodeOK || len(got.M.Mag) != impl.MaxLimbs {
		t.Errorf("256 limbs squared: code %d and %d limbs", code, len(got.M.Mag))
	}
}

func TestDyCmp(t *testing.T) {
	full := filled(impl.MaxLimbs, ones)
	for _, c := range []struct {
		a, b impl.Dyadic
		sign int
	}{
		{dy(1, 0), dy(1, 0), 0}, {dy(4, 0), dy(1, 2), 0}, {dy(-4, 3), dy(-1, 5), 0}, {dy(0, 5), dy(0, -impl.MaxExp), 0},
		{dy(1, 0), dy(-1, 0), 1}, {dy(-1, impl.MaxExp), dy(1, -impl.MaxExp), -1}, {dy(0, 7), dy(1, -impl.MaxExp), -1}, {dy(0, 7), dy(-1, -impl.MaxExp), 1},
		{dy(2, impl.MaxExp), dy(1, impl.MaxExp), 1}, {dy(-2, impl.MaxExp), dy(-1, impl.MaxExp), -1},
		{times2(full, 0), dy(1, 16384), -1}, {times2(full, impl.MaxExp), times2(power(16383), impl.MaxExp), 1},
		{dy(1<<40, 0), dy(1<<40+1, 0), -1}, {dy(1<<40, 0), dy(1<<40-1, 0), 1}, {dy(1, 40), dy(1<<40+1, 0), -1},
	} {
		for _, c := range []struct {
			a, b impl.Dyadic
			sign int
		}{c, {c.b, c.a, -c.sign}} {
			if sign, code := impl.DyCmp(c.a, c.b); code != impl.CodeOK || sign != c.sign {
				t.Errorf("E %d against E %d: %d, code %d, want %d", c.a.E, c.b.E, sign, code, c.sign)
			}
		}
	}
}

func TestDyadicsThatAreNotValid(t *testing.T) {
	for i, wrong := range wrongDyadics() {
		for _, other := range []impl.Dyadic{{}, dy(3, 1), wrong} {
			for _, pair := range [][2]impl.Dyadic{{wrong, other}, {other, wrong}} {
				if x, code := impl.DyAdd(pair[0], pair[1]); code != impl.CodeBad || !isZeroDyadic(x) {
					t.Errorf("sum of wrong dyadic %d: code %d", i, code)
				}
				if x, code := impl.DyMul(pair[0], pair[1]); code != impl.CodeBad || !isZeroDyadic(x) {
					t.Errorf("product of wrong dyadic %d: code %d", i, code)
				}
				if sign, code := impl.DyCmp(pair[0], pair[1]); code != impl.CodeBad || sign != 0 {
					t.Errorf("order of wrong dyadic %d: %d, code %d", i, sign, code)
				}
			}
		}
	}
}

func TestDyadicsOfIntsAtTheirEnds(t *testing.T) {
	for _, e := range []int{math.MinInt, math.MinInt + 1, math.MaxInt - 1, math.MaxInt} {
		for _, a := range []impl.Dyadic{dy(1, e), dy(0, e)} {
			if _, code := impl.DyAdd(a, a); code != impl.CodeBad {
				t.Errorf("E %d: sum: code %d", e, code)
			}
			if _, code := impl.DyMul(a, a); code != impl.CodeBad {
				t.Errorf("E %d: product: code %d", e, code)
			}
			if _, code := impl.DyFloat(a); code != impl.CodeBad {
				t.Errorf("E %d: float: code %d", e, code)
			}
		}
	}
}
