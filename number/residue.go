package number

import (
	"iter"
	"math/bits"

	"baulk/exact"
)

// The primes that are used are below greatestPrime, so that two remainders have a sum of one word, and, as there are
// more of them than are ever needed, above half of it: they have more than leastPrimeBits binary digits.
const (
	greatestPrime  = 1 << 62
	leastPrimeBits = 61
)

// residue is a remainder modulo a prime.
type residue struct {
	value uint64
	prime uint64
}

// Minus returns the difference.
func (r residue) Minus(s residue) residue {
	if r.value < s.value {
		return residue{value: r.value + r.prime - s.value, prime: r.prime}
	}
	return residue{value: r.value - s.value, prime: r.prime}
}

// Times returns the product.
func (r residue) Times(s residue) residue {
	return residue{value: multipliedModulo(r.value, s.value, r.prime), prime: r.prime}
}

// Over returns the quotient by a remainder that is not 0.
func (r residue) Over(s residue) residue {
	return r.Times(residue{value: inverse(s.value, s.prime), prime: s.prime})
}

// IsZero reports whether the remainder is 0.
func (r residue) IsZero() bool { return r.value == 0 }

// inverse returns the remainder whose product with a remainder that is not 0 is 1, by Euclid's algorithm: each of its
// rests is a multiple of the remainder, but for a multiple of the prime.
func inverse(value, prime uint64) uint64 {
	before, rest := int64(prime), int64(value)
	timesBefore, times := int64(0), int64(1)
	for rest > 1 {
		quotient := before / rest
		before, rest = rest, before-quotient*rest
		timesBefore, times = times, timesBefore-quotient*times
	}
	if times < 0 {
		times += int64(prime)
	}
	return uint64(times)
}

// multipliedModulo returns the remainder of a product.
func multipliedModulo(a, b, modulus uint64) uint64 {
	high, low := bits.Mul64(a, b)
	return bits.Rem64(high, low, modulus)
}

// raisedModulo returns the remainder of a power.
func raisedModulo(base, exponent, modulus uint64) uint64 {
	result := uint64(1)
	for ; exponent > 0; exponent >>= 1 {
		if exponent&1 == 1 {
			result = multipliedModulo(result, base, modulus)
		}
		base = multipliedModulo(base, base, modulus)
	}
	return result
}

// primesBelow goes through the primes below an even number of at least 64, from the greatest one down to 41.
func primesBelow(limit uint64) iter.Seq[uint64] {
	return func(yield func(uint64) bool) {
		for n := limit - 1; n > 40; n -= 2 {
			if isPrime(n) && !yield(n) {
				return
			}
		}
	}
}

// isPrime reports whether an odd number above 37 is a prime. No other number of 64 bits passes Miller's test with all of
// these bases.
func isPrime(n uint64) bool {
	for _, base := range []uint64{2, 3, 5, 7, 11, 13, 17, 19, 23, 29, 31, 37} {
		if !passes(n, base) {
			return false
		}
	}
	return true
}

// passes reports whether an odd number passes Miller's test with a base.
func passes(n, base uint64) bool {
	twos := bits.TrailingZeros64(n - 1)
	x := raisedModulo(base, (n-1)>>twos, n)
	if x == 1 || x == n-1 {
		return true
	}
	for range twos - 1 {
		x = multipliedModulo(x, x, n)
		if x == n-1 {
			return true
		}
	}
	return false
}

// modulo returns equations modulo a prime, and whether it divides none of their denominators.
func modulo(rows [][]exact.Fraction, prime uint64) ([][]residue, bool) {
	result := make([][]residue, len(rows))
	for i, row := range rows {
		result[i] = make([]residue, len(row))
		for j, x := range row {
			top := residue{value: x.Top().Modulo(prime), prime: prime}
			bottom := residue{value: x.Bottom().Modulo(prime), prime: prime}
			if bottom.IsZero() {
				return nil, false
			}
			result[i][j] = top.Over(bottom)
		}
	}
	return result, true
}

// remainders are integers from 0 on and below a modulus that have the remainders of a solution modulo some primes, whose
// product the modulus is.
type remainders struct {
	modulus exact.Int
	values  []exact.Int
}

// with returns the remainders for a further prime.
func (r remainders) with(solution []residue, prime uint64) remainders {
	if r.values == nil {
		r = remainders{modulus: exact.NewInt(1), values: make([]exact.Int, len(solution))}
	}
	size := residue{value: r.modulus.Modulo(prime), prime: prime}
	values := make([]exact.Int, len(solution))
	for i, x := range solution {
		value := residue{value: r.values[i].Modulo(prime), prime: prime}
		times := x.Minus(value).Over(size).value
		values[i] = r.values[i].Plus(r.modulus.Times(exact.NewWord(times)))
	}
	return remainders{modulus: r.modulus.Times(exact.NewWord(prime)), values: values}
}

// fractions returns for each remainder a fraction that has it: if there is one whose numerator and denominator have at
// most so many binary digits, and the modulus more than twice as many and 1, this one.
func (r remainders) fractions(size int) []exact.Fraction {
	list := make([]exact.Fraction, len(r.values))
	for i, x := range r.values {
		list[i] = x.Recovered(r.modulus, size)
	}
	return list
}
