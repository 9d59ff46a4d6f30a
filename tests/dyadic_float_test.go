package tests

import (
	"fmt"
	"math"
	"math/big"
	"testing"

	"loop.example/s01121/impl"
)

// chosenFloats are finite, of every exponent and both signs.
func chosenFloats() []uint32 {
	var all []uint32
	for e := range uint32(255) {
		for _, f := range []uint32{0, 1, 2, 3, 0x400000, 0x3fffff, 0x555555, 0x7ffffe, 0x7fffff, 0x123456} {
			all = append(all, e<<23|f, signBit|e<<23|f)
		}
	}
	return all
}

func finite(bits uint32) bool {
	return bits>>23&0xff != 0xff
}

// valueOf goes by the document's words alone, with no float.
func valueOf(bits uint32) exact {
	e, f := int(bits>>23&0xff), int64(bits&0x7fffff)
	if e > 0 {
		f |= 1 << 23
	} else {
		e = 1
	}
	if bits >= signBit {
		f = -f
	}
	return exact{big.NewInt(f), e - 150}
}

func TestDyOfIsTheValue(t *testing.T) {
	for _, bits := range chosenFloats() {
		d, code := impl.DyOf(bits)
		checkDyadic(t, fmt.Sprintf("%#x", bits), d, code, valueOf(bits))
	}
	for _, c := range []struct {
		bits uint32
		want impl.Dyadic
	}{
		{0, impl.Dyadic{}}, {signBit, impl.Dyadic{}}, {0x3f800000, dy(1, 0)}, {0xc0a00000, dy(-5, 0)},
		{1, dy(1, -149)}, {signBit | 1, dy(-1, -149)}, {leastNormal - 1, dy(0x7fffff, -149)}, {leastNormal, dy(1, -126)},
		{greatestFloat, dy(0xffffff, 104)}, {signBit | greatestFloat, dy(-0xffffff, 104)},
	} {
		if d, code := impl.DyOf(c.bits); code != impl.CodeOK || !sameDyadic(d, c.want) {
			t.Errorf("%#x: %v, code %d", c.bits, d, code)
		}
	}
}

func TestDyOfWantsAFiniteFloat(t *testing.T) {
	for _, bits := range wrongFloats() {
		if d, code := impl.DyOf(bits); code != impl.CodeBad || !isZeroDyadic(d) {
			t.Errorf("%#x: %v, code %d", bits, d, code)
		}
	}
}

func checkThereAndBack(t *testing.T, bits uint32) {
	t.Helper()
	want := bits
	if bits == signBit {
		want = 0
	}
	d, code := impl.DyOf(bits)
	if code != impl.CodeOK || !isNormal(d) {
		t.Fatalf("%#x: %v, code %d", bits, d, code)
	}
	if back, code := impl.DyFloat(d); code != impl.CodeOK || back != want {
		t.Fatalf("%#x came back as %#x, code %d", bits, back, code)
	}
}

func TestP3ThereAndBack(t *testing.T) {
	for _, bits := range chosenFloats() {
		checkThereAndBack(t, bits)
	}
	// 4093 is a prime, so the steps meet every kind of fraction.
	for bits := uint64(0); bits < 1<<32; bits += 4093 {
		if finite(uint32(bits)) {
			checkThereAndBack(t, uint32(bits))
		}
	}
}

func TestP3FloatsThatAreNotNormal(t *testing.T) {
	for low := range uint32(5000) {
		for _, bits := range []uint32{low, leastNormal - 1 - low, leastNormal + low, greatestFloat - low} {
			checkThereAndBack(t, bits)
			checkThereAndBack(t, bits|signBit)
		}
	}
}

// checkFloat holds the answer against the library's rounding, then against the
// floats beside it, one of which may be the one with the exponent 255.
func checkFloat(t *testing.T, what string, a impl.Dyadic) {
	t.Helper()
	x := exactOf(a)
	bits, code := impl.DyFloat(a)
	nearest, _ := new(big.Float).SetMantExp(new(big.Float).SetInt(x.m), x.e).Float32()
	if math.IsInf(float64(nearest), 0) {
		if code != impl.CodeLimit || bits != 0 {
			t.Errorf("%s: %#x, code %d, but the limit is broken", what, bits, code)
		}
		return
	}
	if code != impl.CodeOK || !finite(bits) || bits>>31 == 1 != (x.sign() < 0) {
		t.Errorf("%s: %#x, code %d, want %#x", what, bits, code, math.Float32bits(nearest))
		return
	}
	if bits != math.Float32bits(nearest) {
		t.Errorf("%s: %#x, want %#x", what, bits, math.Float32bits(nearest))
	}
	magnitude := exact{new(big.Int).Abs(x.m), x.e}
	distance := func(bits uint32) exact {
		d := magnitude.minus(valueOf(bits))
		return exact{d.m.Abs(d.m), d.e}
	}
	here := bits &^ signBit
	beside := []uint32{here + 1}
	if here > 0 {
		beside = append(beside, here-1)
	}
	for _, other := range beside {
		nearer := distance(other).minus(distance(here)).sign()
		if nearer < 0 || nearer == 0 && here%2 == 1 {
			t.Errorf("%s: %#x, but %#x is nearer or as near and even", what, here, other)
		}
	}
}

func TestP4Nearest(t *testing.T) {
	for i, a := range dyadics() {
		checkFloat(t, fmt.Sprintf("dyadic %d", i), a)
	}
	for e := -190; e <= 140; e++ {
		for _, m := range []int64{1, 3, 5, 7, 0xffffff, 0x1000001, 0x1000003, 0x1ffffff, 0x2000001, 0x2000003, 0x3ffffff, 0x123456789abcdef, 0x100000080000000, 0x100000080000001, 0x10000017fffffff} {
			checkFloat(t, fmt.Sprintf("%d * 2^%d", m, e), dy(m, e))
			checkFloat(t, fmt.Sprintf("-%d * 2^%d", m, e), dy(-m, e))
		}
	}
}

func TestP4NearestOfLongNumbers(t *testing.T) {
	for n := 1; n <= impl.MaxLimbs; n += 17 {
		for _, m := range []impl.Big{mixed(n, uint32(n)), filled(n, ones), power(32*n - 1), power(32*n - 32)} {
			for _, e := range []int{-32 * n, 127 - 32*n, 128 - 32*n, 129 - 32*n, -126 - 32*n, -140 - 32*n, -149 - 32*n, -150 - 32*n, -151 - 32*n} {
				checkFloat(t, fmt.Sprintf("%d limbs, E %d", n, e), times2(m, e))
				checkFloat(t, fmt.Sprintf("-%d limbs, E %d", n, e), times2(negative(m), e))
			}
		}
	}
}

// TestP4Ties goes half-way from each float to the next, and a little less and
// a little more far.
func TestP4Ties(t *testing.T) {
	for _, bits := range chosenFloats() {
		if bits >= signBit {
			continue
		}
		here := valueOf(bits)
		half := exact{big.NewInt(1), here.e - 1}
		little := exact{big.NewInt(1), here.e - 300}
		for name, x := range map[string]exact{
			"half-way": here.plus(half), "less": here.plus(half).minus(little), "more": here.plus(half).plus(little),
		} {
			up := impl.Dyadic{M: fromReference(x.m), E: x.e}
			checkFloat(t, fmt.Sprintf("%s above %#x", name, bits), up)
			checkFloat(t, fmt.Sprintf("%s below -%#x", name, bits), negativeDyadic(up))
		}
	}
}

func TestP4Edges(t *testing.T) {
	deep := times2(power(32*impl.MaxLimbs-1), -impl.MaxExp)
	for _, c := range []struct {
		name string
		a    impl.Dyadic
		bits uint32
		code int
	}{
		{"0", impl.Dyadic{}, 0, impl.CodeOK},
		{"0 with E of MaxExp", dy(0, impl.MaxExp), 0, impl.CodeOK},
		{"0 with E of -MaxExp", dy(0, -impl.MaxExp), 0, impl.CodeOK},
		{"not normal", dy(12, -2), 0x40400000, impl.CodeOK},
		{"not normal, long", times2(power(16383), -16383), 0x3f800000, impl.CodeOK},
		{"the least float", dy(1, -149), 1, impl.CodeOK},
		{"half of it, to zero", dy(1, -150), 0, impl.CodeOK},
		{"half of it, to minus zero", dy(-1, -150), signBit, impl.CodeOK},
		{"less than half of it", dy(0xffff, -167), 0, impl.CodeOK},
		{"more than half of it", dy(0x10001, -166), 1, impl.CodeOK},
		{"-more than half of it", dy(-0x10001, -166), signBit | 1, impl.CodeOK},
		{"a tie at 1.5 of the least", dy(3, -150), 2, impl.CodeOK},
		{"a tie at 2.5 of the least", dy(5, -150), 2, impl.CodeOK},
		{"a tie at -2.5 of the least", dy(-5, -150), signBit | 2, impl.CodeOK},
		{"the greatest below the normal ones", dy(0x7fffff, -149), leastNormal - 1, impl.CodeOK},
		{"a tie that becomes normal", dy(0xffffff, -150), leastNormal, impl.CodeOK},
		{"less than that tie", dy(0xffffff<<20-1, -170), leastNormal - 1, impl.CodeOK},
		{"a tie above the least normal one", dy(0x1000001, -150), leastNormal, impl.CodeOK},
		{"a tie up", dy(0x1000003, 0), 0x4b800002, impl.CodeOK},
		{"a tie down", dy(0x1000001, 0), 0x4b800000, impl.CodeOK},
		{"a tie to the next power of two", dy(0x1ffffff, 0), 0x4c000000, impl.CodeOK},
		{"the greatest", dy(0xffffff, 104), greatestFloat, impl.CodeOK},
		{"less than the tie above the greatest", dy(0x1ffffff<<30-1, 73), greatestFloat, impl.CodeOK},
		{"-less than the tie above the greatest", dy(-0x1ffffff<<30+1, 73), signBit | greatestFloat, impl.CodeOK},
		{"the tie above the greatest", dy(0x1ffffff, 103), 0, impl.CodeLimit},
		{"the tie below the negative of it", dy(-0x1ffffff, 103), 0, impl.CodeLimit},
		{"2^128", dy(1, 128), 0, impl.CodeLimit},
		{"2^127", dy(1, 127), 0x7f000000, impl.CodeOK},
		{"E of MaxExp", dy(1, impl.MaxExp), 0, impl.CodeLimit},
		{"-E of MaxExp", dy(-1, impl.MaxExp), 0, impl.CodeLimit},
		{"E of -MaxExp", dy(1, -impl.MaxExp), 0, impl.CodeOK},
		{"-E of -MaxExp", dy(-1, -impl.MaxExp), signBit, impl.CodeOK},
		{"MaxLimbs limbs and E of -MaxExp", deep, 0, impl.CodeOK},
		{"MaxLimbs limbs and E of MaxExp", times2(filled(impl.MaxLimbs, ones), impl.MaxExp), 0, impl.CodeLimit},
		{"MaxLimbs limbs that are nearly one", times2(filled(impl.MaxLimbs, ones), -16384), 0x3f800000, impl.CodeOK},
		{"MaxLimbs limbs that are nearly 2^128", times2(filled(impl.MaxLimbs, ones), 128-16384), 0, impl.CodeLimit},
	} {
		if bits, code := impl.DyFloat(c.a); bits != c.bits || code != c.code {
			t.Errorf("%s: %#x, code %d, want %#x, code %d", c.name, bits, code, c.bits, c.code)
		}
	}
}

// TestP4OneBitFarBelowATie has a bit in the first limb that alone breaks the
// tie, whatever number of limbs lies between.
func TestP4OneBitFarBelowATie(t *testing.T) {
	for n := 2; n <= impl.MaxLimbs; n += 51 {
		for _, top := range []uint32{0x01000001, 0x01000003, 0x80000080, 0x80000180, ones} {
			m := filled(n, 0)
			m.Mag[n-1] = top
			tie := times2(m, -32*(n-1))
			more := copyOf(m)
			more.Mag[0] |= 1
			checkFloat(t, fmt.Sprintf("%d limbs below %#x: a tie", n-1, top), tie)
			checkFloat(t, fmt.Sprintf("%d limbs below %#x: more", n-1, top), times2(more, tie.E))
		}
	}
}

func TestDyFloatWantsAValidDyadic(t *testing.T) {
	for i, a := range wrongDyadics() {
		if bits, code := impl.DyFloat(a); code != impl.CodeBad || bits != 0 {
			t.Errorf("wrong dyadic %d: %#x, code %d", i, bits, code)
		}
	}
}
