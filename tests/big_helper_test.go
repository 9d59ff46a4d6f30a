package tests

import (
	"math/big"
	"slices"
	"testing"

	"loop.example/s01121/impl"
)

const ones = 0xffffffff

// reference is the same number in the library's own form.
func reference(a impl.Big) *big.Int {
	b := make([]byte, 4*len(a.Mag))
	for i, limb := range a.Mag {
		end := len(b) - 4*i
		b[end-1], b[end-2], b[end-3], b[end-4] = byte(limb), byte(limb>>8), byte(limb>>16), byte(limb>>24)
	}
	x := new(big.Int).SetBytes(b)
	if a.Neg {
		x.Neg(x)
	}
	return x
}

// fromReference knows no limit of limbs.
func fromReference(x *big.Int) impl.Big {
	b := x.Bytes()
	slices.Reverse(b)
	a := impl.Big{Neg: x.Sign() < 0, Mag: make([]uint32, (len(b)+3)/4)}
	for i, c := range b {
		a.Mag[i/4] |= uint32(c) << (8 * (i % 4))
	}
	return a
}

func same(a, b impl.Big) bool {
	return a.Neg == b.Neg && slices.Equal(a.Mag, b.Mag)
}

func isZero(a impl.Big) bool {
	return same(a, impl.Big{})
}

func copyOf(a impl.Big) impl.Big {
	return impl.Big{Neg: a.Neg, Mag: slices.Clone(a.Mag)}
}

func negative(a impl.Big) impl.Big {
	return impl.Big{Neg: !a.Neg && len(a.Mag) > 0, Mag: slices.Clone(a.Mag)}
}

func whole(limbs ...uint32) impl.Big {
	return impl.Big{Mag: limbs}
}

func filled(n int, limb uint32) impl.Big {
	return impl.Big{Mag: slices.Repeat([]uint32{limb}, n)}
}

// power is 2^n.
func power(n int) impl.Big {
	a := filled(n/32+1, 0)
	a.Mag[n/32] = 1 << (n % 32)
	return a
}

// mixed has n limbs that look like chance but are always the same.
func mixed(n int, seed uint32) impl.Big {
	a := filled(n, 0)
	for i := range a.Mag {
		seed = seed*1664525 + 1013904223
		a.Mag[i] = seed ^ seed>>15
	}
	a.Mag[n-1] |= 1
	return a
}

// numbers are valid Bigs: zero, small ones, ones that carry and borrow over
// many limbs, ones of MaxLimbs limbs, each also with the other sign.
func numbers() []impl.Big {
	up := []impl.Big{
		whole(1), whole(2), whole(3), whole(10), whole(999999999), whole(1000000000), whole(1000000001),
		whole(0x7fffffff), whole(0x80000000), whole(0xfffffffe), whole(ones),
		whole(0, 1), whole(1, 1), whole(ones, 1), whole(0, ones), whole(ones, ones), whole(0xfffffffe, ones),
		whole(0, 0, 1), whole(1, 0, 1), whole(ones, 0, ones), whole(0, 0, 0, 0x80000000), whole(7, 0, 0, 0, 9),
		filled(5, ones), filled(6, ones), power(160), power(192), filled(64, 0x55555555), mixed(3, 1), mixed(7, 2), mixed(40, 3),
		filled(255, ones), filled(256, ones), filled(257, ones), mixed(256, 4), power(8191), power(8192),
		filled(511, ones), power(511 * 32), power(511*32 - 1), power(511*32 + 31),
		filled(impl.MaxLimbs, 1), filled(impl.MaxLimbs, ones), mixed(impl.MaxLimbs, 5), mixed(impl.MaxLimbs, 6),
	}
	all := []impl.Big{{}}
	for _, a := range up {
		all = append(all, a, negative(a))
	}
	return all
}

// wrongNumbers are Bigs that are not valid, one or more for each reason.
func wrongNumbers() []impl.Big {
	return []impl.Big{
		{Neg: true},
		{Neg: true, Mag: []uint32{}},
		{Mag: []uint32{0}},
		{Neg: true, Mag: []uint32{0}},
		{Mag: []uint32{1, 0}},
		{Neg: true, Mag: []uint32{ones, 0, 0}},
		{Mag: append(filled(impl.MaxLimbs-1, 1).Mag, 0)},
		{Mag: append(filled(impl.MaxLimbs, 1).Mag, 0)},
		filled(impl.MaxLimbs+1, 1),
		negative(filled(impl.MaxLimbs+1, ones)),
		filled(100000, 3),
	}
}

// checkBig holds an answer against what the arithmetic of whole numbers and
// the limit of limbs ask for.
func checkBig(t *testing.T, what string, got impl.Big, code int, want *big.Int) {
	t.Helper()
	if want.BitLen() > 32*impl.MaxLimbs {
		if code != impl.CodeLimit || !isZero(got) {
			t.Errorf("%s: code %d and %d limbs, but the limit is broken", what, code, len(got.Mag))
		}
		return
	}
	if code != impl.CodeOK || !impl.BigValid(got) || !same(got, fromReference(want)) {
		t.Errorf("%s: code %d, %.60s, want %.60s", what, code, reference(got), want)
	}
}
