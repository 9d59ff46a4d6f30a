package tests

import (
	"fmt"
	"slices"
	"testing"

	"loop.example/s01121/impl"
)

// dyadicCalls are the functions of Dyadics, all as functions of two; what
// isn't a Dyadic in an answer is in E.
func dyadicCalls() map[string]func(a, b impl.Dyadic) impl.Dyadic {
	return map[string]func(a, b impl.Dyadic) impl.Dyadic{
		"add": func(a, b impl.Dyadic) impl.Dyadic { x, _ := impl.DyAdd(a, b); return x },
		"mul": func(a, b impl.Dyadic) impl.Dyadic { x, _ := impl.DyMul(a, b); return x },
		"cmp": func(a, b impl.Dyadic) impl.Dyadic { sign, _ := impl.DyCmp(a, b); return impl.Dyadic{E: sign} },
		"float": func(a, b impl.Dyadic) impl.Dyadic {
			x, _ := impl.DyFloat(a)
			y, _ := impl.DyFloat(b)
			return impl.Dyadic{E: int(x ^ y)}
		},
		"det of a diagonal": func(a, b impl.Dyadic) impl.Dyadic {
			x, _ := impl.DyDet(diagonal(a, b, dy(1, 0)))
			return x
		},
		"det of all places": func(a, b impl.Dyadic) impl.Dyadic {
			x, _ := impl.DyDet([]impl.Dyadic{a, a, b, b, a, b, a, b, a})
			return x
		},
	}
}

func memoryDyadics() []impl.Dyadic {
	return []impl.Dyadic{
		{}, dy(0, 9), dy(1, 0), dy(-1, 0), dy(12, -3), dy(-1<<40, impl.MaxExp), times2(mixed(20, 41), -7),
		times2(filled(impl.MaxLimbs, ones), -impl.MaxExp), times2(negative(power(16383)), 2),
		dy(1, impl.MaxExp+1), times2(whole(1, 0), 0), times2(filled(impl.MaxLimbs+1, 1), 0), {M: impl.Big{Neg: true}},
	}
}

func TestDyadicAnswersAreNewMemory(t *testing.T) {
	for name, call := range dyadicCalls() {
		for i, a := range memoryDyadics() {
			for j, b := range memoryDyadics() {
				checkNewMemory(t, fmt.Sprintf("%s of %d and %d", name, i, j), a.M, b.M, func(x, y impl.Big) impl.Big {
					return call(times2(x, a.E), times2(y, b.E)).M
				})
			}
		}
	}
}

func TestDyadicOneListAsBothArguments(t *testing.T) {
	for name, call := range dyadicCalls() {
		for i, a := range memoryDyadics() {
			list, all := withRoom(a.M.Mag, 0xabcdabcd)
			was := slices.Clone(all)
			shared := impl.Dyadic{M: impl.Big{Neg: a.M.Neg, Mag: list}, E: a.E}
			got, want := call(shared, shared), call(times2(copyOf(a.M), a.E), times2(copyOf(a.M), a.E))
			if !sameDyadic(got, want) || !slices.Equal(all, was) {
				t.Errorf("%s of dyadic %d with itself", name, i)
			}
		}
	}
}

func TestDyDetKeepsItsList(t *testing.T) {
	for i, m := range matrices() {
		list, all := withRoom(m, dy(99, 99))
		impl.DyDet(list)
		for j, a := range all {
			want := dy(99, 99)
			if j < len(m) {
				want = m[j]
			}
			if !sameDyadic(a, want) {
				t.Errorf("matrix %d: element %d was changed", i, j)
			}
		}
	}
}

func TestDyOfAnswersNewMemory(t *testing.T) {
	for _, bits := range []uint32{0, 1, signBit, 0x3f800000, 0xc0a00000, leastNormal, greatestFloat} {
		first, _ := impl.DyOf(bits)
		second, _ := impl.DyOf(bits)
		want := impl.Dyadic{M: copyOf(first.M), E: first.E}
		scribble(first.M.Mag, 0x12341234)
		third, _ := impl.DyOf(bits)
		if !sameDyadic(second, want) || !sameDyadic(third, want) {
			t.Errorf("%#x: two answers share memory", bits)
		}
	}
}
