package exact

import (
	"math/bits"
	"strconv"
	"strings"
)

// A word holds any number of chunkDigits decimal digits; chunkSize is 1 more than the greatest one.
const (
	chunkDigits = 19
	chunkSize   = 10_000_000_000_000_000_000
)

// Int is an integer; its zero value is 0.
type Int struct {
	negative bool
	size     []uint64
}

// signed returns the integer with a size; 0 has no sign.
func signed(negative bool, size []uint64) Int {
	return Int{negative: negative && len(size) > 0, size: size}
}

// NewInt returns an integer.
func NewInt(n int) Int {
	size := uint64(n)
	if n < 0 {
		size = -size
	}
	return signed(n < 0, NewWord(size).size)
}

// NewWord returns an integer from 0 on.
func NewWord(n uint64) Int { return signed(false, trimmed([]uint64{n})) }

// ParseInt returns the integer with a text of decimal digits, with or without a minus sign before them, and whether the
// text is one.
func ParseInt(text string) (Int, bool) {
	digits, negative := strings.CutPrefix(text, "-")
	if digits == "" {
		return Int{}, false
	}
	var size []uint64
	for digits != "" {
		n := (len(digits)-1)%chunkDigits + 1
		chunk, err := strconv.ParseUint(digits[:n], 10, 64)
		if err != nil {
			return Int{}, false
		}
		size = added(multiplied(size, []uint64{chunkSize}), trimmed([]uint64{chunk}))
		digits = digits[n:]
	}
	return signed(negative, size), true
}

// String returns the decimal digits, with a minus sign before those of a negative number.
func (a Int) String() string {
	text := ""
	for rest := a.size; ; {
		quotient, chunk := dividedByWord(rest, chunkSize)
		digits := strconv.FormatUint(chunk, 10)
		if len(quotient) == 0 {
			text = digits + text
			break
		}
		text = strings.Repeat("0", chunkDigits-len(digits)) + digits + text
		rest = quotient
	}
	if a.negative {
		return "-" + text
	}
	return text
}

// Sign returns -1, 0 or 1.
func (a Int) Sign() int {
	switch {
	case a.negative:
		return -1
	case len(a.size) == 0:
		return 0
	}
	return 1
}

// Bits returns the number of binary digits, without the sign; 0 has none.
func (a Int) Bits() int {
	n := len(a.size)
	if n == 0 {
		return 0
	}
	return 64*(n-1) + bits.Len64(a.size[n-1])
}

// Order returns -1, 0 or 1 if a is less than, equal to, or greater than b.
func (a Int) Order(b Int) int {
	switch {
	case a.negative != b.negative:
		if a.negative {
			return -1
		}
		return 1
	case a.negative:
		return compared(b.size, a.size)
	}
	return compared(a.size, b.size)
}

// Negated returns -a.
func (a Int) Negated() Int { return signed(!a.negative, a.size) }

// Plus returns the sum.
func (a Int) Plus(b Int) Int {
	switch {
	case a.negative == b.negative:
		return signed(a.negative, added(a.size, b.size))
	case compared(a.size, b.size) < 0:
		return signed(b.negative, subtracted(b.size, a.size))
	}
	return signed(a.negative, subtracted(a.size, b.size))
}

// Minus returns the difference.
func (a Int) Minus(b Int) Int { return a.Plus(b.Negated()) }

// Times returns the product.
func (a Int) Times(b Int) Int {
	return signed(a.negative != b.negative, multiplied(a.size, b.size))
}

// Over returns the quotient, rounded down, and the remainder, which is 0 or has the sign of the divisor; both are 0 if
// the divisor is 0.
func (a Int) Over(b Int) (Int, Int) {
	if b.Sign() == 0 {
		return Int{}, Int{}
	}
	q, r := divided(a.size, b.size)
	quotient, rest := signed(a.negative != b.negative, q), signed(a.negative, r)
	if rest.Sign() != 0 && a.negative != b.negative {
		return quotient.Minus(NewInt(1)), rest.Plus(b)
	}
	return quotient, rest
}

// Modulo returns the remainder, from 0 on, on division by a word; 0 if the word is 0.
func (a Int) Modulo(word uint64) uint64 {
	if word == 0 {
		return 0
	}
	var rest uint64
	for i := len(a.size) - 1; i >= 0; i-- {
		rest = bits.Rem64(rest, a.size[i], word)
	}
	if a.negative && rest != 0 {
		return word - rest
	}
	return rest
}

// CommonDivisor returns the greatest common divisor, from 0 on; that of 0 and 0 is 0.
func (a Int) CommonDivisor(b Int) Int { return signed(false, commonDivisor(a.size, b.size)) }

// Inverse returns the number from 0 on and below a modulus whose product with a leaves the same rest as 1 on division by
// the modulus; a and the modulus are at least 0 and 1, and have no common divisor above 1.
func (a Int) Inverse(modulus Int) Int {
	_, times := a.shortened(modulus, 1)
	_, inverse := times.Over(modulus)
	return inverse
}

// Recovered returns the fraction whose numerator leaves the same rest as the product of a and its denominator on division
// by a modulus, if there is one of which both have at most so many binary digits, and the modulus more than twice as many
// and 1; otherwise any fraction. a and the modulus are at least 0 and 1, and a is below the modulus.
func (a Int) Recovered(modulus Int, size int) Fraction {
	rest, times := a.shortened(modulus, size)
	return NewFraction(rest, times)
}

// shortened returns the first rest of Euclid's algorithm with at most so many binary digits, and a number whose product
// with a leaves the same rest.
func (a Int) shortened(modulus Int, size int) (Int, Int) {
	// Each rest of Euclid's algorithm is a multiple of a, but for a multiple of the modulus.
	before, rest := modulus, a
	timesBefore, times := NewInt(0), NewInt(1)
	for rest.Bits() > size {
		quotient, next := before.Over(rest)
		before, rest = rest, next
		timesBefore, times = times, timesBefore.Minus(quotient.Times(times))
	}
	return rest, times
}

// UpTo returns a number from 0 to a limit, and whether it is one.
func (a Int) UpTo(limit int) (int, bool) {
	if a.Sign() < 0 || a.Order(NewInt(limit)) > 0 {
		return 0, false
	}
	return int(wordAt(a.size, 0)), true
}

// Root returns the integer part of the root; 0 if the number is negative.
func (a Int) Root() Int {
	if a.Sign() <= 0 {
		return Int{}
	}
	// From a beginning above the root the steps of Newton's method fall until they are at its integer part.
	root := power(uint(a.Bits()+1) / 2)
	for {
		quotient, _ := a.Over(root)
		next, _ := root.Plus(quotient).Over(NewInt(2))
		if next.Order(root) >= 0 {
			return root
		}
		root = next
	}
}

// power returns 2 to the power of n.
func power(n uint) Int {
	size := make([]uint64, n/64+1)
	size[n/64] = 1 << (n % 64)
	return signed(false, size)
}
