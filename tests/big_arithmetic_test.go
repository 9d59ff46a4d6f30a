package tests

import (
	"fmt"
	"math"
	"math/big"
	"testing"

	"loop.example/s01121/impl"
)

func TestBigValid(t *testing.T) {
	for i, a := range numbers() {
		if !impl.BigValid(a) {
			t.Errorf("number %d is valid", i)
		}
	}
	if !impl.BigValid(impl.Big{Mag: []uint32{}}) {
		t.Error("an empty list of limbs is zero, too")
	}
	for i, a := range wrongNumbers() {
		if impl.BigValid(a) {
			t.Errorf("wrong number %d is not valid", i)
		}
	}
}

func TestP1Arithmetic(t *testing.T) {
	all := numbers()
	for i, a := range all {
		x := reference(a)
		for j, b := range all {
			y := reference(b)
			sum, code := impl.BigAdd(a, b)
			checkBig(t, fmt.Sprintf("%d + %d", i, j), sum, code, new(big.Int).Add(x, y))
			difference, code := impl.BigSub(a, b)
			checkBig(t, fmt.Sprintf("%d - %d", i, j), difference, code, new(big.Int).Sub(x, y))
			product, code := impl.BigMul(a, b)
			checkBig(t, fmt.Sprintf("%d * %d", i, j), product, code, new(big.Int).Mul(x, y))
			if sign, code := impl.BigCmp(a, b); code != impl.CodeOK || sign != x.Cmp(y) {
				t.Errorf("%d against %d: %d, code %d", i, j, sign, code)
			}
		}
	}
}

func TestP1CarriesAndBorrows(t *testing.T) {
	one := whole(1)
	if x, code := impl.BigAdd(whole(ones, ones, ones, ones), one); code != impl.CodeOK || !same(x, whole(0, 0, 0, 0, 1)) {
		t.Errorf("carry: %v, code %d", x, code)
	}
	if x, code := impl.BigAdd(one, whole(ones, ones, 7)); code != impl.CodeOK || !same(x, whole(0, 0, 8)) {
		t.Errorf("carry that ends: %v, code %d", x, code)
	}
	if x, code := impl.BigSub(whole(0, 0, 0, 0, 1), one); code != impl.CodeOK || !same(x, whole(ones, ones, ones, ones)) {
		t.Errorf("borrow: %v, code %d", x, code)
	}
	if x, code := impl.BigSub(one, whole(0, 0, 8)); code != impl.CodeOK || !same(x, negative(whole(ones, ones, 7))) {
		t.Errorf("borrow that ends: %v, code %d", x, code)
	}
	if x, code := impl.BigMul(whole(ones, ones), whole(ones, ones)); code != impl.CodeOK || !same(x, whole(1, 0, 0xfffffffe, ones)) {
		t.Errorf("product: %v, code %d", x, code)
	}
}

func TestP1ZeroHasOneForm(t *testing.T) {
	for i, a := range numbers() {
		for name, zero := range map[string]func() (impl.Big, int){
			"a - a":  func() (impl.Big, int) { return impl.BigSub(a, a) },
			"a + -a": func() (impl.Big, int) { return impl.BigAdd(a, negative(a)) },
			"a * 0":  func() (impl.Big, int) { return impl.BigMul(a, impl.Big{}) },
			"0 * a":  func() (impl.Big, int) { return impl.BigMul(impl.Big{}, a) },
		} {
			if x, code := zero(); code != impl.CodeOK || !isZero(x) {
				t.Errorf("number %d: %s: %v, code %d", i, name, x, code)
			}
		}
	}
}

func TestP1LimitOfLimbs(t *testing.T) {
	full, one, two := filled(impl.MaxLimbs, ones), whole(1), whole(2)
	half := power(32*impl.MaxLimbs - 1)
	for _, c := range []struct {
		name string
		call func(a, b impl.Big) (impl.Big, int)
		a, b impl.Big
		code int
	}{
		{"full + 1", impl.BigAdd, full, one, impl.CodeLimit},
		{"-full + -1", impl.BigAdd, negative(full), negative(one), impl.CodeLimit},
		{"full + 0", impl.BigAdd, full, impl.Big{}, impl.CodeOK},
		{"full + -full", impl.BigAdd, full, negative(full), impl.CodeOK},
		{"half + half", impl.BigAdd, half, half, impl.CodeLimit},
		{"full - 1", impl.BigSub, full, one, impl.CodeOK},
		{"full - -1", impl.BigSub, full, negative(one), impl.CodeLimit},
		{"-full - 1", impl.BigSub, negative(full), one, impl.CodeLimit},
		{"1 - -full", impl.BigSub, one, negative(full), impl.CodeLimit},
		{"full * -1", impl.BigMul, full, negative(one), impl.CodeOK},
		{"full * 2", impl.BigMul, full, two, impl.CodeLimit},
		{"full * full", impl.BigMul, full, full, impl.CodeLimit},
		{"256 limbs * 256 limbs", impl.BigMul, filled(256, ones), filled(256, ones), impl.CodeOK},
		{"257 limbs * 256 limbs, short", impl.BigMul, power(256 * 32), power(255 * 32), impl.CodeOK},
		{"257 limbs * 256 limbs, long", impl.BigMul, filled(257, ones), filled(256, ones), impl.CodeLimit},
		{"2^8192 * 2^8191", impl.BigMul, power(8192), power(8191), impl.CodeOK},
		{"2^8192 * 2^8192", impl.BigMul, power(8192), power(8192), impl.CodeLimit},
	} {
		x, code := c.call(c.a, c.b)
		if code != c.code || code != impl.CodeOK && !isZero(x) {
			t.Errorf("%s: code %d, %d limbs", c.name, code, len(x.Mag))
		}
	}
}

func TestP1ShiftsOfEverySize(t *testing.T) {
	chosen := []impl.Big{{}, whole(1), whole(5), whole(0, 0, 6), whole(ones, ones, ones), mixed(9, 11), filled(impl.MaxLimbs, ones), mixed(impl.MaxLimbs, 12)}
	for i, a := range chosen {
		for _, a := range []impl.Big{a, negative(a)} {
			x := reference(a)
			for n := -32*impl.MaxLimbs - 40; n <= 32*impl.MaxLimbs+40; n++ {
				want := new(big.Int)
				if n < 0 {
					want.Rsh(x, uint(-n))
				} else {
					want.Lsh(x, uint(n))
				}
				got, code := impl.BigShift(a, n)
				checkBig(t, fmt.Sprintf("number %d shifted by %d", i, n), got, code, want)
			}
		}
	}
}

func TestP1ShiftsRoundDown(t *testing.T) {
	for _, c := range []struct {
		a    impl.Big
		n    int
		want impl.Big
	}{
		{whole(5), -1, whole(2)},
		{negative(whole(5)), -1, negative(whole(3))},
		{negative(whole(4)), -1, negative(whole(2))},
		{negative(whole(0, 1)), -32, negative(whole(1))},
		{negative(whole(1, 1)), -32, negative(whole(2))},
		{negative(whole(0, 1, 1)), -33, negative(whole(0x80000001))},
		{negative(whole(1, ones, ones)), -32, negative(whole(0, 0, 1))},
		{negative(whole(1, 0, 0, 4)), -98, negative(whole(2))},
		{negative(filled(impl.MaxLimbs, ones)), -1, negative(power(32*impl.MaxLimbs - 1))},
		{negative(whole(1)), -1, negative(whole(1))},
	} {
		if x, code := impl.BigShift(c.a, c.n); code != impl.CodeOK || !same(x, c.want) {
			t.Errorf("%v shifted by %d: %v, code %d", c.a, c.n, x, code)
		}
	}
}

func TestP1ShiftsFarAway(t *testing.T) {
	const low, high = math.MinInt, math.MaxInt
	for _, a := range numbers() {
		down := impl.Big{}
		if a.Neg {
			down = negative(whole(1))
		}
		for _, n := range []int{low, low + 1, low + 31, low + 32, -1 << 40, -1 << 31, -1<<31 - 1, -100000} {
			if x, code := impl.BigShift(a, n); code != impl.CodeOK || !same(x, down) {
				t.Errorf("%.20s.. shifted by %d: code %d, %v", reference(a), n, code, x)
			}
		}
		up := impl.CodeLimit
		if isZero(a) {
			up = impl.CodeOK
		}
		for _, n := range []int{high, high - 1, high - 31, high - 32, 1 << 40, 1 << 31, 1<<31 - 1, 100000} {
			if x, code := impl.BigShift(a, n); code != up || !isZero(x) {
				t.Errorf("%.20s.. shifted by %d: code %d, %d limbs", reference(a), n, code, len(x.Mag))
			}
		}
	}
}

func TestP1ShiftAndBack(t *testing.T) {
	for i, a := range numbers() {
		for _, n := range []int{0, 1, 7, 31, 32, 33, 63, 64, 65, 4096, 8191, 16352, 16383} {
			up, code := impl.BigShift(a, n)
			if code == impl.CodeLimit {
				continue
			}
			back, again := impl.BigShift(up, -n)
			if code != impl.CodeOK || again != impl.CodeOK || !same(back, a) {
				t.Errorf("number %d by %d and back: codes %d and %d", i, n, code, again)
			}
		}
	}
}

func TestP1WrongNumbers(t *testing.T) {
	for i, bad := range wrongNumbers() {
		for _, other := range []impl.Big{{}, whole(1), negative(whole(0, 1)), filled(impl.MaxLimbs, ones), bad} {
			for _, pair := range [][2]impl.Big{{bad, other}, {other, bad}} {
				for name, call := range map[string]func(a, b impl.Big) (impl.Big, int){"add": impl.BigAdd, "sub": impl.BigSub, "mul": impl.BigMul} {
					if x, code := call(pair[0], pair[1]); code != impl.CodeBad || !isZero(x) {
						t.Errorf("%s, wrong number %d: code %d, %d limbs", name, i, code, len(x.Mag))
					}
				}
				if sign, code := impl.BigCmp(pair[0], pair[1]); code != impl.CodeBad || sign != 0 {
					t.Errorf("cmp, wrong number %d: code %d, sign %d", i, code, sign)
				}
			}
		}
		for _, n := range []int{0, 1, -1, 32, -32, math.MaxInt, math.MinInt} {
			if x, code := impl.BigShift(bad, n); code != impl.CodeBad || !isZero(x) {
				t.Errorf("wrong number %d shifted by %d: code %d, %d limbs", i, n, code, len(x.Mag))
			}
		}
	}
}
