package number

import (
	"math/big"
	"math/rand"
	"slices"
	"testing"

	"baulk/api"
	"baulk/exact"
)

// Tests of what Solve is made of.

func TestPrimes(t *testing.T) {
	var got []uint64
	for p := range primesBelow(128) {
		got = append(got, p)
	}
	if !slices.Equal(got, []uint64{127, 113, 109, 107, 103, 101, 97, 89, 83, 79, 73, 71, 67, 61, 59, 53, 47, 43, 41}) {
		t.Errorf("the primes below 128: got %v", got)
	}
	limit := big.NewInt(greatestPrime)
	for p := range primesBelow(greatestPrime) {
		for limit.Sub(limit, big.NewInt(1)); limit.Uint64() != p; limit.Sub(limit, big.NewInt(1)) {
			if limit.ProbablyPrime(20) {
				t.Fatalf("%v is a prime, but not found", limit)
			}
		}
		if !limit.ProbablyPrime(20) {
			t.Fatalf("%v is no prime", limit)
		}
		if greatestPrime-p > 5000 {
			break
		}
	}
	// Strong pseudoprimes to the first bases, and products that are squares of primes or near them.
	for _, n := range []uint64{2047, 1373653, 25326001, 3215031751, 2152302898747, 3474749660383, 341550071728321, 3825123056546413051, 2147483647 * 2147483647, 41 * 43} {
		if isPrime(n) {
			t.Errorf("%d is no prime", n)
		}
	}
}

func TestResidues(t *testing.T) {
	r := rand.New(rand.NewSource(31))
	for _, prime := range []uint64{41, 2147483647, 4611686018427387847} {
		p := new(big.Int).SetUint64(prime)
		for range 500 {
			a := residue{value: r.Uint64() % prime, prime: prime}
			b := residue{value: 1 + r.Uint64()%(prime-1), prime: prime}
			x, y := new(big.Int).SetUint64(a.value), new(big.Int).SetUint64(b.value)
			sameResidue(t, a.Minus(b), new(big.Int).Sub(x, y), p)
			sameResidue(t, a.Times(b), new(big.Int).Mul(x, y), p)
			sameResidue(t, a.Over(b), new(big.Int).Mul(x, new(big.Int).ModInverse(y, p)), p)
		}
	}
}

// sameResidue reports a remainder that is not the wanted one.
func sameResidue(t *testing.T, got residue, wanted, prime *big.Int) {
	t.Helper()
	if got.value != new(big.Int).Mod(wanted, prime).Uint64() || got.prime != prime.Uint64() {
		t.Errorf("got %v, want %v modulo %v", got, wanted, prime)
	}
}

// The fractions of the greatest size have to be found with a modulus that is just large enough for it.
func TestFractionsOfRemainders(t *testing.T) {
	r := rand.New(rand.NewSource(32))
	for size := 1; size <= 40; size++ {
		limit := int64(1) << size
		for range 50 {
			n, d := r.Int63n(2*limit-1)-limit+1, 1+r.Int63n(limit-1)
			wanted := exact.NewFraction(exact.NewInt(int(n)), exact.NewInt(int(d)))
			var found remainders
			for p := range primesBelow(1 << 20) {
				x := big.NewInt(n)
				x.Mul(x, new(big.Int).ModInverse(big.NewInt(d), new(big.Int).SetUint64(p)))
				x.Mod(x, new(big.Int).SetUint64(p))
				if uint64(d)%p == 0 {
					continue
				}
				found = found.with([]residue{{value: x.Uint64(), prime: p}}, p)
				if found.modulus.Bits() > 2*size+2 {
					break
				}
			}
			if got := found.fractions(size)[0]; got.Order(wanted) != 0 {
				t.Errorf("%d/%d: got %v/%v", n, d, got.Top(), got.Bottom())
			}
		}
	}
}

// Elimination with fractions and Solve have the same result, also where the determinant is a multiple of the first
// primes, or where these divide denominators.
func TestEliminationOfFractions(t *testing.T) {
	r := rand.New(rand.NewSource(33))
	const first, second = "4611686018427387847", "4611686018427387817"
	some := []api.Rat{"0", "0", "1", "-1", "2", "1/2", "-3/7", first, "-" + second, "1/" + first, "-1/" + second, first + "/" + second}
	singular := 0
	for i := range 1500 {
		n := 1 + i%5
		m, b := make([][]api.Rat, n), make([]api.Rat, n)
		for k := range m {
			for range n {
				m[k] = append(m[k], some[r.Intn(len(some))])
			}
			b[k] = some[r.Intn(len(some))]
		}
		rows, e := readEquations(m, b)
		if e != api.OK {
			t.Fatalf("%v: the error %d", m, e)
		}
		wanted, ok := eliminated(rows)
		got, e := Solve(m, b)
		if ok != (e == api.OK) || !ok && e != api.ErrSingular {
			t.Errorf("%v: the error %d", m, e)
			continue
		}
		if !ok {
			singular++
		}
		for k, x := range wanted {
			if a, _ := exact.Write(x); a != got[k] {
				t.Errorf("%v and %v: got %v, want %v at %d", m, b, got[k], a, k)
			}
		}
	}
	if singular < 100 || singular > 1000 {
		t.Errorf("%d of 1500 equations are singular", singular)
	}
}
