package tests

import (
	"math"
	"testing"

	"loop.example/s01121/impl"
)

func checkOrder(t *testing.T, a, b uint32) {
	t.Helper()
	want := valueOf(a).minus(valueOf(b)).sign()
	if sign, code := impl.FloatOrder(a, b); code != impl.CodeOK || sign != want {
		t.Errorf("%#x and %#x: %d, code %d, want %d", a, b, sign, code, want)
	}
}

func TestFloatOrderOfAllKinds(t *testing.T) {
	floats := []uint32{0, 1, 2, 3, leastNormal - 2, leastNormal - 1, leastNormal, leastNormal + 1, 0x3dcccccd, 0x3f7fffff, 0x3f800000, 0x3f800001, 0x4b800000, greatestFloat - 1, greatestFloat}
	for e := uint32(5); e < 255; e += 25 {
		floats = append(floats, e<<23|0x123456)
	}
	for _, a := range floats {
		for _, b := range floats {
			checkOrder(t, a, b)
			checkOrder(t, a|signBit, b)
			checkOrder(t, a, b|signBit)
			checkOrder(t, a|signBit, b|signBit)
		}
	}
}

func TestFloatOrderOfFloatsBesideEachOther(t *testing.T) {
	for _, bits := range chosenFloats() {
		for n := -2; n <= 2; n++ {
			if next := steps(bits, n); finite(next) {
				checkOrder(t, bits, next)
			}
		}
		checkOrder(t, bits, bits^signBit)
	}
}

func TestFloatOrderByHand(t *testing.T) {
	for _, c := range []struct {
		a, b uint32
		want int
	}{
		{0, 0, 0}, {0, signBit, 0}, {signBit, 0, 0}, {signBit, signBit, 0},
		{1, 0, 1}, {1, signBit, 1}, {signBit | 1, 0, -1}, {signBit | 1, signBit, -1}, {0, 1, -1}, {signBit, 1, -1}, {signBit, signBit | 1, 1},
		{1, signBit | 1, 1}, {2, 1, 1}, {signBit | 2, signBit | 1, -1},
		{leastNormal, leastNormal - 1, 1}, {leastNormal - 1, leastNormal, -1}, {signBit | leastNormal, signBit | leastNormal - 1, -1},
		{greatestFloat, signBit | greatestFloat, 1}, {signBit | greatestFloat, greatestFloat, -1}, {greatestFloat, greatestFloat - 1, 1},
		{greatestFloat, greatestFloat, 0}, {math.Float32bits(-2), math.Float32bits(1), -1}, {math.Float32bits(0.5), math.Float32bits(0.25), 1},
	} {
		if sign, code := impl.FloatOrder(c.a, c.b); code != impl.CodeOK || sign != c.want {
			t.Errorf("%#x and %#x: %d, code %d, want %d", c.a, c.b, sign, code, c.want)
		}
	}
}

func TestFloatOrderWantsFiniteFloats(t *testing.T) {
	for _, wrong := range wrongFloats() {
		for _, other := range []uint32{0, signBit, 1, 0x3f800000, signBit | greatestFloat, wrong, 0x7f800000} {
			if sign, code := impl.FloatOrder(wrong, other); code != impl.CodeBad || sign != 0 {
				t.Errorf("%#x and %#x: %d, code %d", wrong, other, sign, code)
			}
			if sign, code := impl.FloatOrder(other, wrong); code != impl.CodeBad || sign != 0 {
				t.Errorf("%#x and %#x: %d, code %d", other, wrong, sign, code)
			}
		}
	}
}
