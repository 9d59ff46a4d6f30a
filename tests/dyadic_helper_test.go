package tests

import (
	"math"
	"math/big"
	"testing"

	"loop.example/s01121/impl"
)

const (
	greatestFloat = 0x7f7fffff
	leastNormal   = 0x00800000
	signBit       = 0x80000000
)

// exact is m * 2^e without any limit, by the library's own numbers.
type exact struct {
	m *big.Int
	e int
}

func exactOf(a impl.Dyadic) exact {
	return exact{reference(a.M), a.E}
}

func (a exact) at(e int) *big.Int {
	return new(big.Int).Lsh(a.m, uint(a.e-e))
}

func (a exact) plus(b exact) exact {
	low := min(a.e, b.e)
	return exact{new(big.Int).Add(a.at(low), b.at(low)), low}
}

func (a exact) minus(b exact) exact {
	return a.plus(exact{new(big.Int).Neg(b.m), b.e})
}

func (a exact) times(b exact) exact {
	return exact{new(big.Int).Mul(a.m, b.m), a.e + b.e}
}

func (a exact) sign() int {
	return a.m.Sign()
}

func exactDet(m []impl.Dyadic) exact {
	x := make([]exact, len(m))
	for i, a := range m {
		x[i] = exactOf(a)
	}
	return detOf(x)
}

// detOf goes along the first row, unlike the program's sum of six products.
func detOf(x []exact) exact {
	minor := func(i, j int) exact {
		return x[3+i].times(x[6+j]).minus(x[3+j].times(x[6+i]))
	}
	return x[0].times(minor(1, 2)).minus(x[1].times(minor(0, 2))).plus(x[2].times(minor(0, 1)))
}

// normalForm is the normal Dyadic of the value, and false if that is too great.
func normalForm(a exact) (impl.Dyadic, bool) {
	if a.sign() == 0 {
		return impl.Dyadic{}, true
	}
	zeros := a.m.TrailingZeroBits()
	magnitude := new(big.Int).Abs(a.m)
	odd := magnitude.Rsh(magnitude, zeros)
	e := a.e + int(zeros)
	if odd.BitLen() > 32*impl.MaxLimbs || e < -impl.MaxExp || e > impl.MaxExp {
		return impl.Dyadic{}, false
	}
	d := impl.Dyadic{M: fromReference(odd), E: e}
	d.M.Neg = a.sign() < 0
	return d, true
}

func sameDyadic(a, b impl.Dyadic) bool {
	return a.E == b.E && same(a.M, b.M)
}

func isZeroDyadic(a impl.Dyadic) bool {
	return sameDyadic(a, impl.Dyadic{})
}

// isNormal goes by the document's words, not by normalForm.
func isNormal(a impl.Dyadic) bool {
	if !impl.BigValid(a.M) || a.E < -impl.MaxExp || a.E > impl.MaxExp {
		return false
	}
	return len(a.M.Mag) == 0 && a.E == 0 || len(a.M.Mag) > 0 && a.M.Mag[0]%2 == 1
}

func checkDyadic(t *testing.T, what string, got impl.Dyadic, code int, want exact) {
	t.Helper()
	form, fits := normalForm(want)
	if !fits {
		if code != impl.CodeLimit || !isZeroDyadic(got) {
			t.Errorf("%s: code %d, %d limbs and E %d, but it is too great", what, code, len(got.M.Mag), got.E)
		}
		return
	}
	if code != impl.CodeOK || !isNormal(got) || !sameDyadic(got, form) {
		t.Errorf("%s: code %d, %d limbs and E %d, want %d limbs and E %d", what, code, len(got.M.Mag), got.E, len(form.M.Mag), form.E)
	}
}

// dy is m * 2^e, not made normal.
func dy(m int64, e int) impl.Dyadic {
	return impl.Dyadic{M: fromReference(big.NewInt(m)), E: e}
}

func times2(m impl.Big, e int) impl.Dyadic {
	return impl.Dyadic{M: m, E: e}
}

func negativeDyadic(a impl.Dyadic) impl.Dyadic {
	return impl.Dyadic{M: negative(a.M), E: a.E}
}

// dyadics are valid: zeros of every kind, small ones, ones that are not normal,
// ones at the bounds of E and of the limbs, each also with the other sign.
func dyadics() []impl.Dyadic {
	full := filled(impl.MaxLimbs, ones)
	highest := power(32*impl.MaxLimbs - 1)
	up := []impl.Dyadic{
		dy(1, 0), dy(3, 0), dy(3, -1), dy(5, 3), dy(1, -149), dy(0xffffff, 104), dy(0x1ffffff, -20), dy(1<<40+1, -40),
		dy(2, 0), dy(8, 0), dy(12, -7), dy(1<<60, -60), times2(whole(0, 0, 1), -64), times2(whole(0, 6), 1),
		dy(1, impl.MaxExp), dy(1, -impl.MaxExp), dy(2, impl.MaxExp), dy(2, -impl.MaxExp), dy(7, impl.MaxExp-1), dy(7, 1-impl.MaxExp),
		dy(1, 16383), dy(1, 16384), dy(1, -16383), dy(1, -16384),
		times2(full, 0), times2(full, impl.MaxExp), times2(full, -impl.MaxExp), times2(filled(256, ones), 5), times2(filled(257, ones), 5),
		times2(highest, 0), times2(highest, impl.MaxExp), times2(highest, -impl.MaxExp), times2(highest, impl.MaxExp-16383),
		times2(mixed(12, 31), -100), times2(mixed(impl.MaxLimbs, 32), 77),
	}
	all := []impl.Dyadic{{}, dy(0, 1), dy(0, -1), dy(0, impl.MaxExp), dy(0, -impl.MaxExp)}
	for _, a := range up {
		all = append(all, a, negativeDyadic(a))
	}
	return all
}

// wrongDyadics are not valid, by M or by E or by both.
func wrongDyadics() []impl.Dyadic {
	var all []impl.Dyadic
	for _, m := range wrongNumbers() {
		all = append(all, times2(m, 0), times2(m, impl.MaxExp+1))
	}
	for _, e := range []int{impl.MaxExp + 1, -impl.MaxExp - 1, 1 << 40, -1 << 40, math.MaxInt, math.MinInt} {
		all = append(all, dy(1, e), dy(-3, e), dy(0, e), times2(filled(impl.MaxLimbs, ones), e))
	}
	return all
}

// wrongFloats are not finite: both infinities and NaNs of all kinds.
func wrongFloats() []uint32 {
	var all []uint32
	for _, bits := range []uint32{0x7f800000, 0x7f800001, 0x7fa00000, 0x7fbfffff, 0x7fc00000, 0x7fffffff} {
		all = append(all, bits, bits|signBit)
	}
	return all
}
