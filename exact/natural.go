// Package exact has integers and fractions of any size. The numbers of package api end at MaxDigits digits, but what is
// computed on the way to them does not.
package exact

import (
	"cmp"
	"math"
	"math/bits"
)

// A natural number is a list of words, the lowest one first; the last one is not 0, so 0 has none. These lists are
// never changed once they are part of an Int, so several of these may share them.

// trimmed returns a list of words without the zeros at its end.
func trimmed(a []uint64) []uint64 {
	for len(a) > 0 && a[len(a)-1] == 0 {
		a = a[:len(a)-1]
	}
	return a
}

// compared returns -1, 0 or 1 for two natural numbers.
func compared(a, b []uint64) int {
	if len(a) != len(b) {
		return cmp.Compare(len(a), len(b))
	}
	for i := len(a) - 1; i >= 0; i-- {
		if a[i] != b[i] {
			return cmp.Compare(a[i], b[i])
		}
	}
	return 0
}

// added returns the sum of two natural numbers.
func added(a, b []uint64) []uint64 {
	if len(a) < len(b) {
		a, b = b, a
	}
	result := make([]uint64, len(a)+1)
	copy(result, a)
	var carry uint64
	for i := range a {
		result[i], carry = bits.Add64(a[i], wordAt(b, i), carry)
	}
	result[len(a)] = carry
	return trimmed(result)
}

// subtracted returns a minus b, where b is not above a.
func subtracted(a, b []uint64) []uint64 {
	result := make([]uint64, len(a))
	var borrow uint64
	for i := range a {
		result[i], borrow = bits.Sub64(a[i], wordAt(b, i), borrow)
	}
	return trimmed(result)
}

// wordAt returns a word of a number, 0 beyond its end.
func wordAt(a []uint64, i int) uint64 {
	if i < len(a) {
		return a[i]
	}
	return 0
}

// multiplied returns the product of two natural numbers.
func multiplied(a, b []uint64) []uint64 {
	result := make([]uint64, len(a)+len(b))
	for i, x := range a {
		result[i+len(b)] = addMultiple(result[i:i+len(b)], b, x)
	}
	return trimmed(result)
}

// addMultiple adds x times b to the words of a, which are as many, and returns what is carried beyond them.
func addMultiple(a, b []uint64, x uint64) uint64 {
	var carry uint64
	for i, y := range b {
		high, low := bits.Mul64(x, y)
		first, c := bits.Add64(a[i], low, 0)
		high += c
		a[i], c = bits.Add64(first, carry, 0)
		carry = high + c
	}
	return carry
}

// subtractMultiple subtracts x times b from the words of a, which are one more, and returns what is borrowed beyond
// them.
func subtractMultiple(a, b []uint64, x uint64) uint64 {
	var carry uint64
	for i, y := range b {
		high, low := bits.Mul64(x, y)
		first, c := bits.Sub64(a[i], low, 0)
		high += c
		a[i], c = bits.Sub64(first, carry, 0)
		carry = high + c
	}
	last, borrow := bits.Sub64(a[len(b)], carry, 0)
	a[len(b)] = last
	return borrow
}

// restore adds b to the words of a, which are one more, and returns what is carried beyond them.
func restore(a, b []uint64) uint64 {
	var carry uint64
	for i := range a {
		a[i], carry = bits.Add64(a[i], wordAt(b, i), carry)
	}
	return carry
}

// divided returns the quotient and the remainder of two natural numbers; b is not 0.
func divided(a, b []uint64) ([]uint64, []uint64) {
	if compared(a, b) < 0 {
		return nil, a
	}
	if len(b) == 1 {
		quotient, rest := dividedByWord(a, b[0])
		return quotient, trimmed([]uint64{rest})
	}
	// A divisor whose highest bit is set makes each guessed word at most 2 too large.
	shift := uint(bits.LeadingZeros64(b[len(b)-1]))
	rest, divisor := shiftedUp(a, shift), trimmed(shiftedUp(b, shift))
	n := len(divisor)
	quotient := make([]uint64, len(rest)-n)
	for i := len(quotient) - 1; i >= 0; i-- {
		part := rest[i : i+n+1]
		guess := guessed(part[n], part[n-1], divisor[n-1])
		borrow := subtractMultiple(part, divisor, guess)
		for borrow != 0 {
			guess--
			borrow -= restore(part, divisor)
		}
		quotient[i] = guess
	}
	return trimmed(quotient), trimmed(shiftedDown(rest, shift))
}

// guessed returns a word of a quotient by the two highest words of the rest and the highest one of the divisor.
func guessed(high, low, divisor uint64) uint64 {
	if high >= divisor {
		return math.MaxUint64
	}
	guess, _ := bits.Div64(high, low, divisor)
	return guess
}

// dividedByWord returns the quotient and the remainder on division by a word that is not 0.
func dividedByWord(a []uint64, divisor uint64) ([]uint64, uint64) {
	quotient := make([]uint64, len(a))
	var rest uint64
	for i := len(a) - 1; i >= 0; i-- {
		quotient[i], rest = bits.Div64(rest, a[i], divisor)
	}
	return trimmed(quotient), rest
}

// shiftedUp returns a number times 2 to the power of shift, which is below 64, with one word more.
func shiftedUp(a []uint64, shift uint) []uint64 {
	result := make([]uint64, len(a)+1)
	for i, x := range a {
		result[i] |= x << shift
		result[i+1] = x >> (64 - shift)
	}
	return result
}

// shiftedDown returns the integer part of a number divided by 2 to the power of shift, which is below 64.
func shiftedDown(a []uint64, shift uint) []uint64 {
	result := make([]uint64, len(a))
	for i, x := range a {
		result[i] = x>>shift | wordAt(a, i+1)<<(64-shift)
	}
	return result
}

// commonDivisor returns the greatest common divisor of two natural numbers.
func commonDivisor(a, b []uint64) []uint64 {
	for len(b) > 1 {
		_, rest := divided(a, b)
		a, b = b, rest
	}
	if len(b) == 0 {
		return a
	}
	_, rest := dividedByWord(a, b[0])
	return []uint64{commonDivisorOfWords(b[0], rest)}
}

// commonDivisorOfWords returns the greatest common divisor of two words.
func commonDivisorOfWords(a, b uint64) uint64 {
	for b != 0 {
		a, b = b, a%b
	}
	return a
}
