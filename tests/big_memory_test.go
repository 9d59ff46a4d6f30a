package tests

import (
	"fmt"
	"slices"
	"testing"

	"loop.example/s01121/impl"
)

// withRoom puts an argument into memory that goes on behind it, so that a
// write behind its end is seen too. It answers the argument and all its memory.
func withRoom[T any](list []T, mark T) ([]T, []T) {
	all := append(slices.Clone(list), slices.Repeat([]T{mark}, 8)...)
	return all[:len(list)], all
}

func scribble[T any](list []T, mark T) {
	list = list[:cap(list)]
	for i := range list {
		list[i] = mark
	}
}

// bigCalls are the functions of two Bigs and of one, all as functions of two.
func bigCalls() map[string]func(a, b impl.Big) impl.Big {
	calls := map[string]func(a, b impl.Big) impl.Big{
		"add": func(a, b impl.Big) impl.Big { x, _ := impl.BigAdd(a, b); return x },
		"sub": func(a, b impl.Big) impl.Big { x, _ := impl.BigSub(a, b); return x },
		"mul": func(a, b impl.Big) impl.Big { x, _ := impl.BigMul(a, b); return x },
		"cmp": func(a, b impl.Big) impl.Big { impl.BigCmp(a, b); return impl.Big{} },
		"valid": func(a, b impl.Big) impl.Big {
			impl.BigValid(a)
			impl.BigValid(b)
			return impl.Big{}
		},
		"text": func(a, b impl.Big) impl.Big {
			impl.BigText(a)
			impl.BigText(b)
			return impl.Big{}
		},
	}
	for name, n := range map[string]int{"shift by 0": 0, "shift by 32": 32, "shift by 5": 5, "shift by -5": -5, "shift by -32": -32, "shift by -3000": -3000} {
		calls[name] = func(a, b impl.Big) impl.Big { x, _ := impl.BigShift(a, n); return x }
	}
	return calls
}

func memoryNumbers() []impl.Big {
	return append([]impl.Big{{}, whole(1), negative(whole(1)), whole(5, 9, 0, 3), negative(whole(ones, ones, ones)), mixed(20, 21), filled(impl.MaxLimbs, ones)}, wrongNumbers()...)
}

// checkNewMemory calls twice, then writes over one answer and over both
// arguments, and looks at what must not have changed.
func checkNewMemory(t *testing.T, what string, a, b impl.Big, call func(a, b impl.Big) impl.Big) {
	t.Helper()
	x, allX := withRoom(a.Mag, 0xabcdabcd)
	y, allY := withRoom(b.Mag, 0xabcdabcd)
	wasX, wasY := slices.Clone(allX), slices.Clone(allY)
	ax, by := impl.Big{Neg: a.Neg, Mag: x}, impl.Big{Neg: b.Neg, Mag: y}
	first := call(ax, by)
	second := call(ax, by)
	want := copyOf(first)
	scribble(first.Mag, 0x12341234)
	if !slices.Equal(allX, wasX) || !slices.Equal(allY, wasY) {
		t.Fatalf("%s: an argument was changed, or the answer shares its memory", what)
	}
	scribble(allX, 0x77777777)
	scribble(allY, 0x77777777)
	if !same(second, want) {
		t.Fatalf("%s: the answer shares memory with another or with an argument", what)
	}
}

func TestBigAnswersAreNewMemory(t *testing.T) {
	for name, call := range bigCalls() {
		for i, a := range memoryNumbers() {
			for j, b := range memoryNumbers() {
				checkNewMemory(t, fmt.Sprintf("%s of %d and %d", name, i, j), a, b, call)
			}
		}
	}
}

func TestBigOneListAsBothArguments(t *testing.T) {
	for name, call := range bigCalls() {
		for i, a := range memoryNumbers() {
			x, all := withRoom(a.Mag, 0xabcdabcd)
			was := slices.Clone(all)
			shared := impl.Big{Neg: a.Neg, Mag: x}
			got, want := call(shared, shared), call(copyOf(a), copyOf(a))
			if !same(got, want) || !slices.Equal(all, was) {
				t.Errorf("%s of number %d with itself", name, i)
			}
		}
	}
}

func TestBigTextIsNewMemory(t *testing.T) {
	for i, a := range memoryNumbers() {
		limbs, all := withRoom(a.Mag, 0xabcdabcd)
		was := slices.Clone(all)
		first, _ := impl.BigText(impl.Big{Neg: a.Neg, Mag: limbs})
		second, _ := impl.BigText(impl.Big{Neg: a.Neg, Mag: limbs})
		want := string(first)
		scribble(first, '#')
		if string(second) != want || !slices.Equal(all, was) {
			t.Errorf("number %d", i)
		}
		if third, _ := impl.BigText(a); string(third) != want {
			t.Errorf("number %d: a text was kept", i)
		}
	}
}

func TestBigParseKeepsItsText(t *testing.T) {
	for _, s := range []string{"", "-", "0", "-7", "x", "00", "18446744073709551616", "-100000000000000000000000000000000"} {
		text, all := withRoom([]byte(s), '5')
		was := string(all)
		first, _ := impl.BigParse(text)
		second, _ := impl.BigParse(text)
		want := copyOf(first)
		scribble(first.Mag, 0x12341234)
		if string(all) != was || !same(second, want) {
			t.Errorf("%q", s)
		}
	}
}
