package impl

import (
	"cmp"
	"math/bits"
	"slices"
)

const (
	CodeOK       = 0
	CodeBad      = 1
	CodeLimit    = 2
	CodeSyntax   = 3
	CodeMagic    = 4
	CodeShort    = 5
	CodeNumber   = 6
	CodeZero     = 7
	CodeTrailing = 8
)

const (
	MaxLimbs  = 512
	MaxDigits = 5000
)

const (
	limbBits = 32
	maxBits  = MaxLimbs * limbBits

	// Nine is the most decimal digits whose every value fits in a limb.
	groupDigits = 9
	groupBase   = 1_000_000_000
)

// Big is a whole number: a sign and 32-bit limbs, the lowest first.
type Big struct {
	Neg bool
	Mag []uint32
}

// limbs is a magnitude, the lowest limb first and the last one not 0. Its
// methods know no limit: what comes in between may be greater than an answer.
type limbs []uint32

func BigValid(a Big) bool {
	n := len(a.Mag)
	if n == 0 {
		return !a.Neg
	}
	return n <= MaxLimbs && a.Mag[n-1] != 0
}

func BigAdd(a, b Big) (Big, int) {
	if !BigValid(a) || !BigValid(b) {
		return Big{}, CodeBad
	}
	return withinLimit(a.plus(b))
}

func BigSub(a, b Big) (Big, int) {
	if !BigValid(a) || !BigValid(b) {
		return Big{}, CodeBad
	}
	return withinLimit(a.minus(b))
}

func BigMul(a, b Big) (Big, int) {
	if !BigValid(a) || !BigValid(b) {
		return Big{}, CodeBad
	}
	return withinLimit(a.times(b))
}

func BigCmp(a, b Big) (int, int) {
	if !BigValid(a) || !BigValid(b) {
		return 0, CodeBad
	}
	return orderOf(a, b), CodeOK
}

func BigShift(a Big, n int) (Big, int) {
	if !BigValid(a) {
		return Big{}, CodeBad
	}
	if len(a.Mag) == 0 {
		return Big{}, CodeOK
	}
	if n > maxBits {
		return Big{}, CodeLimit
	}
	if n >= 0 {
		return withinLimit(signed(a.Neg, limbs(a.Mag).shiftedUp(n)))
	}
	// Every shift down by maxBits or more has the same answer, and the least
	// int has no negative.
	return withinLimit(shiftedDown(a, -max(n, -maxBits)))
}

func BigText(a Big) ([]byte, int) {
	if !BigValid(a) {
		return nil, CodeBad
	}
	if len(a.Mag) == 0 {
		return []byte{'0'}, CodeOK
	}
	text := lastDigitFirst(a.Mag)
	if a.Neg {
		text = append(text, '-')
	}
	slices.Reverse(text)
	return text, CodeOK
}

func BigParse(text []byte) (Big, int) {
	digits := text
	neg := len(text) > 0 && text[0] == '-'
	if neg {
		digits = text[1:]
	}
	if !plainDigits(digits) || neg && digits[0] == '0' {
		return Big{}, CodeSyntax
	}
	if len(digits) > MaxDigits {
		return Big{}, CodeLimit
	}
	return withinLimit(signed(neg, magnitudeOf(digits)))
}

func one() Big {
	return Big{Mag: limbs{1}}
}

// signed keeps zero to its one form.
func signed(neg bool, mag limbs) Big {
	return Big{Neg: neg && len(mag) > 0, Mag: mag}
}

func withinLimit(a Big) (Big, int) {
	if len(a.Mag) > MaxLimbs {
		return Big{}, CodeLimit
	}
	return a, CodeOK
}

func (a Big) plus(b Big) Big {
	x, y := limbs(a.Mag), limbs(b.Mag)
	if a.Neg == b.Neg {
		return signed(a.Neg, x.plus(y))
	}
	if x.order(y) < 0 {
		return signed(b.Neg, y.minus(x))
	}
	return signed(a.Neg, x.minus(y))
}

func (a Big) minus(b Big) Big {
	return a.plus(b.negated())
}

// negated shares the limbs.
func (a Big) negated() Big {
	return signed(!a.Neg, a.Mag)
}

func (a Big) times(b Big) Big {
	return signed(a.Neg != b.Neg, limbs(a.Mag).times(b.Mag))
}

func (a Big) sign() int {
	return orderOf(a, Big{})
}

func orderOf(a, b Big) int {
	if a.Neg && !b.Neg {
		return -1
	}
	if b.Neg && !a.Neg {
		return 1
	}
	if a.Neg {
		return limbs(b.Mag).order(a.Mag)
	}
	return limbs(a.Mag).order(b.Mag)
}

func shiftedDown(a Big, n int) Big {
	mag, exact := limbs(a.Mag).shiftedDown(n)
	if a.Neg && !exact {
		// Cutting bits off goes towards zero, which for a negative number is up.
		mag = mag.plus(limbs{1})
	}
	return signed(a.Neg, mag)
}

// plainDigits tells whether the text is the digits of a number that is not
// negative, with no zero first but in 0 itself.
func plainDigits(text []byte) bool {
	for _, c := range text {
		if c < '0' || c > '9' {
			return false
		}
	}
	return len(text) == 1 || len(text) > 1 && text[0] != '0'
}

// lastDigitFirst has no zero behind the first digit of the number, which here
// comes last; zero has no digits.
func lastDigitFirst(mag limbs) []byte {
	var digits []byte
	for group := range mag.groups {
		for range groupDigits {
			digits = append(digits, '0'+byte(group%10))
			group /= 10
		}
	}
	for len(digits) > 0 && digits[len(digits)-1] == '0' {
		digits = digits[:len(digits)-1]
	}
	return digits
}

func magnitudeOf(digits []byte) limbs {
	var mag limbs
	for len(digits) > 0 {
		// Only the first group may be short, so that all others weigh groupBase.
		n := (len(digits)-1)%groupDigits + 1
		var group uint32
		for _, c := range digits[:n] {
			group = group*10 + uint32(c-'0')
		}
		mag = mag.timesPlus(groupBase, group)
		digits = digits[n:]
	}
	return mag
}

// trimmed drops the zeros at the upper end; zero becomes nil.
func (m limbs) trimmed() limbs {
	n := len(m)
	for n > 0 && m[n-1] == 0 {
		n--
	}
	if n == 0 {
		return nil
	}
	return m[:n]
}

// bitLength counts the bits from the highest one that is set downwards.
func (m limbs) bitLength() int {
	if len(m) == 0 {
		return 0
	}
	return limbBits*(len(m)-1) + bits.Len32(m[len(m)-1])
}

// lowZeros counts the bits below the lowest one that is set.
func (m limbs) lowZeros() int {
	for i, limb := range m {
		if limb != 0 {
			return limbBits*i + bits.TrailingZeros32(limb)
		}
	}
	return 0
}

func (m limbs) order(o limbs) int {
	if len(m) != len(o) {
		return cmp.Compare(len(m), len(o))
	}
	for i := len(m) - 1; i >= 0; i-- {
		if m[i] != o[i] {
			return cmp.Compare(m[i], o[i])
		}
	}
	return 0
}

func (m limbs) plus(o limbs) limbs {
	if len(m) < len(o) {
		m, o = o, m
	}
	sum := make(limbs, len(m)+1)
	var carry uint64
	for i, limb := range m {
		carry += uint64(limb)
		if i < len(o) {
			carry += uint64(o[i])
		}
		sum[i] = uint32(carry)
		carry >>= limbBits
	}
	sum[len(m)] = uint32(carry)
	return sum.trimmed()
}

// minus wants an o that is at most m.
func (m limbs) minus(o limbs) limbs {
	rest := make(limbs, len(m))
	var borrow uint64
	for i, limb := range m {
		taken := borrow
		if i < len(o) {
			taken += uint64(o[i])
		}
		// A difference below zero wraps round and so has its highest bit set.
		left := uint64(limb) - taken
		rest[i] = uint32(left)
		borrow = left >> 63
	}
	return rest.trimmed()
}

func (m limbs) times(o limbs) limbs {
	product := make(limbs, len(m)+len(o))
	for i, x := range m {
		var carry uint64
		for j, y := range o {
			// The greatest sum, (2^32-1)^2 + 2 * (2^32-1), is 2^64-1.
			carry += uint64(x)*uint64(y) + uint64(product[i+j])
			product[i+j] = uint32(carry)
			carry >>= limbBits
		}
		product[i+len(o)] = uint32(carry)
	}
	return product.trimmed()
}

func (m limbs) timesPlus(factor, addend uint32) limbs {
	answer := make(limbs, len(m)+1)
	carry := uint64(addend)
	for i, limb := range m {
		carry += uint64(limb) * uint64(factor)
		answer[i] = uint32(carry)
		carry >>= limbBits
	}
	answer[len(m)] = uint32(carry)
	return answer.trimmed()
}

func (m limbs) shiftedUp(n int) limbs {
	skip, bits := n/limbBits, n%limbBits
	answer := make(limbs, skip+len(m)+1)
	for i, limb := range m {
		wide := uint64(limb) << bits
		answer[skip+i] |= uint32(wide)
		answer[skip+i+1] = uint32(wide >> limbBits)
	}
	return answer.trimmed()
}

// shiftedDown also tells whether no bit that was cut off was set.
func (m limbs) shiftedDown(n int) (limbs, bool) {
	skip, bits := n/limbBits, n%limbBits
	if skip >= len(m) {
		return nil, len(m) == 0
	}
	kept := m[skip:]
	exact := len(m[:skip].trimmed()) == 0 && kept[0]>>bits<<bits == kept[0]
	answer := make(limbs, len(kept))
	for i, limb := range kept {
		wide := uint64(limb)
		if i+1 < len(kept) {
			wide |= uint64(kept[i+1]) << limbBits
		}
		answer[i] = uint32(wide >> bits)
	}
	return answer.trimmed(), exact
}

// groups goes through the decimal digits nine at a time, the lowest group
// first; the last one is not 0.
func (m limbs) groups(yield func(uint32) bool) {
	rest := slices.Clone(m)
	for len(rest) > 0 {
		if !yield(rest.divide(groupBase)) {
			return
		}
		rest = rest.trimmed()
	}
}

// divide works in place, and answers the remainder.
func (m limbs) divide(divisor uint32) uint32 {
	var remainder uint64
	for i := len(m) - 1; i >= 0; i-- {
		remainder = remainder<<limbBits | uint64(m[i])
		m[i] = uint32(remainder / uint64(divisor))
		remainder %= uint64(divisor)
	}
	return uint32(remainder)
}

// odd is m without the zeros at the lower end.
func (m limbs) odd() limbs {
	answer, _ := m.shiftedDown(m.lowZeros())
	return answer
}

// commonFactor is the greatest one of two odd numbers.
func (m limbs) commonFactor(o limbs) limbs {
	for {
		switch m.order(o) {
		case 0:
			return m
		case -1:
			m, o = o, m
		}
		// Two divides neither of them, so it can be dropped from their difference.
		m = m.minus(o).odd()
	}
}

// over wants an odd divisor without remainder. So the lowest limb of the
// quotient is the one whose product with the divisor has the lowest limb of m,
// and the same holds for what is left of m without that product.
func (m limbs) over(divisor limbs) limbs {
	inverse := inverseOf(divisor[0])
	var quotient limbs
	for len(m) > 0 {
		limb := m[0] * inverse
		quotient = append(quotient, limb)
		m, _ = m.minus(divisor.timesPlus(limb, 0)).shiftedDown(limbBits)
	}
	return quotient
}

// inverseOf is the limb whose product with an odd one ends in 1.
func inverseOf(odd uint32) uint32 {
	// The square of an odd number ends in the bits 001, and each round doubles
	// the number of bits that are right.
	inverse := odd
	for right := 3; right < limbBits; right *= 2 {
		inverse *= 2 - odd*inverse
	}
	return inverse
}
