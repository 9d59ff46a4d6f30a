package tests

import (
	"math/big"
	"strings"
	"testing"

	"loop.example/s01121/impl"
)

// greatest is 2^(32 * MaxLimbs) - 1, the greatest number that has a valid Big.
func greatest() *big.Int {
	return reference(filled(impl.MaxLimbs, ones))
}

func checkText(t *testing.T, a impl.Big) {
	t.Helper()
	want := reference(a).String()
	text, code := impl.BigText(a)
	if code != impl.CodeOK || string(text) != want {
		t.Errorf("code %d, text %.40q, want %.40q", code, text, want)
	}
	back, code := impl.BigParse(text)
	if code != impl.CodeOK || !impl.BigValid(back) || !same(back, a) {
		t.Errorf("%.40q came back with code %d as %.40s", text, code, reference(back))
	}
}

func TestP2NumbersToTextsAndBack(t *testing.T) {
	for _, a := range numbers() {
		checkText(t, a)
	}
	// Around each power of ten a digit more begins, and a group of nine may be all zeros.
	ten, one := big.NewInt(1), big.NewInt(1)
	for range 60 {
		for _, x := range []*big.Int{new(big.Int).Sub(ten, one), ten, new(big.Int).Add(ten, one)} {
			checkText(t, fromReference(x))
			checkText(t, negative(fromReference(x)))
		}
		ten = new(big.Int).Mul(ten, big.NewInt(10))
	}
}

func TestP2TextsToNumbersAndBack(t *testing.T) {
	texts := []string{"0", "1", "-1", "9", "10", "-10", "999999999", "1000000000", "1000000001", "4294967295", "4294967296", "-18446744073709551616", "100000000000000000000000000001"}
	for n := 1; n <= 40; n++ {
		texts = append(texts, strings.Repeat("9", n), "-1"+strings.Repeat("0", n), "-"+strings.Repeat("1234567890", n))
	}
	texts = append(texts, strings.Repeat("9", 4932), "1"+strings.Repeat("0", 4932), "-1"+strings.Repeat("18", 2466), greatest().String(), "-"+greatest().String())
	for _, s := range texts {
		a, code := impl.BigParse([]byte(s))
		want, _ := new(big.Int).SetString(s, 10)
		if code != impl.CodeOK || !impl.BigValid(a) || !same(a, fromReference(want)) {
			t.Errorf("%.40q: code %d, %.40s", s, code, reference(a))
		}
		if text, code := impl.BigText(a); code != impl.CodeOK || string(text) != s {
			t.Errorf("%.40q came back with code %d as %.40q", s, code, text)
		}
	}
}

func TestP2TextsThatAreNoNumbers(t *testing.T) {
	texts := []string{
		"", "-", "--", "-0", "00", "000", "01", "-01", "-00", "+1", "+0", "+", "--1", "-+1", "1-", "1-1",
		" 1", "1 ", " ", "\t1", "1\n", "- 1", "1 000", "1,000", "1_000", "1.0", "1e3", "0x1", "0b1", "a", "1a", "a1", "12345678901234567890a",
		"1\x00", "\x00", "\x001", "/", ":", "1/", "1:", "\xff", "1\xb1", "\u0661", "\u22121", "1\u0660",
	}
	for _, n := range []int{impl.MaxDigits - 1, impl.MaxDigits, impl.MaxDigits + 1, impl.MaxDigits + 9} {
		nines := strings.Repeat("9", n-1)
		texts = append(texts, "0"+nines, "-0"+nines, nines+"x", "x"+nines, strings.Repeat("0", n), "+9"+nines, "9"+nines+"-")
	}
	for _, s := range texts {
		if x, code := impl.BigParse([]byte(s)); code != impl.CodeSyntax || !isZero(x) {
			t.Errorf("%.40q of %d bytes: code %d, %d limbs", s, len(s), code, len(x.Mag))
		}
	}
	if x, code := impl.BigParse(nil); code != impl.CodeSyntax || !isZero(x) {
		t.Errorf("nil: code %d", code)
	}
}

func TestP2TextsBeyondTheLimits(t *testing.T) {
	over := new(big.Int).Add(greatest(), big.NewInt(1)).String()
	texts := []string{over, "2" + strings.Repeat("0", 4932), strings.Repeat("9", 4933), "1" + strings.Repeat("0", 4933)}
	for _, n := range []int{impl.MaxDigits - 1, impl.MaxDigits, impl.MaxDigits + 1, 3 * impl.MaxDigits, 2000000} {
		texts = append(texts, "1"+strings.Repeat("0", n-1), strings.Repeat("9", n))
	}
	for _, s := range texts {
		for _, s := range []string{s, "-" + s} {
			if x, code := impl.BigParse([]byte(s)); code != impl.CodeLimit || !isZero(x) {
				t.Errorf("%.40q of %d bytes: code %d, %d limbs", s, len(s), code, len(x.Mag))
			}
		}
	}
}

func TestP2WrongNumbersHaveNoText(t *testing.T) {
	for i, bad := range wrongNumbers() {
		if text, code := impl.BigText(bad); code != impl.CodeBad || len(text) != 0 {
			t.Errorf("wrong number %d: code %d, text %.40q", i, code, text)
		}
	}
}
