package exact

import (
	"math"
	"math/big"
	"math/rand"
	"testing"
)

// samples returns integers of many sizes, with words of zeros and of ones, which are where carries go wrong.
func samples(r *rand.Rand) []*big.Int {
	list := []*big.Int{big.NewInt(0), big.NewInt(1), big.NewInt(-1), big.NewInt(math.MaxInt64), big.NewInt(math.MinInt64)}
	for _, bits := range []uint{63, 64, 65, 127, 128, 129, 192, 640} {
		power := new(big.Int).Lsh(big.NewInt(1), bits)
		for _, d := range []int64{-1, 0, 1} {
			x := new(big.Int).Add(power, big.NewInt(d))
			list = append(list, x, new(big.Int).Neg(x))
		}
	}
	words := []big.Word{0, 1, math.MaxUint, 1 << 63, 1<<63 - 1}
	for n := 1; n <= 12; n++ {
		for range 4 {
			part := make([]big.Word, n)
			for i := range part {
				if k := r.Intn(2 * len(words)); k < len(words) {
					part[i] = words[k]
				} else {
					part[i] = big.Word(r.Uint64())
				}
			}
			list = append(list, new(big.Int).SetBits(part))
		}
	}
	return list
}

// read returns the integer with the digits of another one.
func read(t *testing.T, x *big.Int) Int {
	t.Helper()
	a, ok := ParseInt(x.String())
	if !ok {
		t.Fatalf("ParseInt(%v): no integer", x)
	}
	return a
}

// same reports an integer that is not the wanted one.
func same(t *testing.T, what string, got Int, wanted *big.Int) {
	t.Helper()
	if got.String() != wanted.String() {
		t.Errorf("%s: got %v, want %v", what, got, wanted)
	}
}

func TestIntegers(t *testing.T) {
	list := samples(rand.New(rand.NewSource(1)))
	for _, x := range list {
		a := read(t, x)
		same(t, "String", a, x)
		same(t, "Negated", a.Negated(), new(big.Int).Neg(x))
		if a.Sign() != x.Sign() || a.Bits() != x.BitLen() {
			t.Errorf("%v: sign %d, bits %d", x, a.Sign(), a.Bits())
		}
		if x.Sign() >= 0 {
			same(t, "Root", a.Root(), new(big.Int).Sqrt(x))
		}
		for _, y := range list {
			b := read(t, y)
			same(t, "Plus", a.Plus(b), new(big.Int).Add(x, y))
			same(t, "Minus", a.Minus(b), new(big.Int).Sub(x, y))
			same(t, "Times", a.Times(b), new(big.Int).Mul(x, y))
			same(t, "CommonDivisor", a.CommonDivisor(b), new(big.Int).GCD(nil, nil, new(big.Int).Abs(x), new(big.Int).Abs(y)))
			if got := a.Order(b); got != x.Cmp(y) {
				t.Errorf("Order of %v and %v: got %d", x, y, got)
			}
		}
	}
}

func TestQuotients(t *testing.T) {
	list := samples(rand.New(rand.NewSource(2)))
	for _, x := range list {
		for _, y := range list {
			quotient, rest := read(t, x).Over(read(t, y))
			if y.Sign() == 0 {
				same(t, "quotient by 0", quotient, y)
				same(t, "rest by 0", rest, y)
				continue
			}
			back := quotient.Times(read(t, y)).Plus(rest)
			same(t, "quotient and rest together", back, x)
			if rest.Sign()*y.Sign() < 0 || new(big.Int).Abs(y).Cmp(new(big.Int).Abs(libraryInt(rest))) <= 0 {
				t.Errorf("%v over %v: rest %v", x, y, rest)
			}
		}
		for _, word := range []uint64{0, 1, 2, 97, 1 << 63, math.MaxUint64} {
			wanted := new(big.Int)
			if word != 0 {
				wanted.Mod(x, new(big.Int).SetUint64(word))
			}
			same(t, "Modulo", NewWord(read(t, x).Modulo(word)), wanted)
		}
	}
}

// libraryInt returns an integer of the library with the digits of one of ours.
func libraryInt(a Int) *big.Int {
	x, _ := new(big.Int).SetString(a.String(), 10)
	return x
}

func TestSmallIntegers(t *testing.T) {
	for _, n := range []int{0, 1, -1, 42, math.MaxInt, math.MinInt} {
		same(t, "NewInt", NewInt(n), big.NewInt(int64(n)))
	}
	same(t, "NewWord", NewWord(math.MaxUint64), new(big.Int).SetUint64(math.MaxUint64))
	same(t, "the zero value", Int{}, big.NewInt(0))
	same(t, "Root of -4", NewInt(-4).Root(), big.NewInt(0))
	for _, text := range []string{"", "-", "--1", "+1", "1 ", "1_0", "0x1", "1234567890123456789012345678901234567890a", "a1234567890123456789"} {
		if a, ok := ParseInt(text); ok || a.Sign() != 0 {
			t.Errorf("ParseInt(%q): got %v, %v", text, a, ok)
		}
	}
	if a, ok := ParseInt("-000"); !ok || a.String() != "0" {
		t.Errorf("ParseInt(-000): got %v, %v", a, ok)
	}
}

func TestFractions(t *testing.T) {
	r := rand.New(rand.NewSource(3))
	list := samples(r)
	for range 5000 {
		x, u := random(t, r, list)
		y, v := random(t, r, list)
		sameFraction(t, "Plus", x.Plus(y), new(big.Rat).Add(u, v))
		sameFraction(t, "Minus", x.Minus(y), new(big.Rat).Sub(u, v))
		sameFraction(t, "Times", x.Times(y), new(big.Rat).Mul(u, v))
		if v.Sign() != 0 {
			sameFraction(t, "Over", x.Over(y), new(big.Rat).Quo(u, v))
		}
		if x.Order(y) != u.Cmp(v) || x.Sign() != u.Sign() || x.IsZero() != (u.Sign() == 0) || x.IsWhole() != u.IsInt() {
			t.Errorf("%v and %v: order %d, sign %d", u, v, x.Order(y), x.Sign())
		}
		same(t, "Floor", x.Floor(), new(big.Int).Div(u.Num(), u.Denom()))
		square := x.Times(x)
		root, ok := square.Root()
		if !ok || root.Times(root).Order(square) != 0 || root.Sign() < 0 {
			t.Errorf("Root of the square of %v: got %v, %v", u, root, ok)
		}
	}
}

// random returns a fraction of two of some integers, and its like of the library.
func random(t *testing.T, r *rand.Rand, list []*big.Int) (Fraction, *big.Rat) {
	t.Helper()
	top, bottom := list[r.Intn(len(list))], list[1+r.Intn(len(list)-1)]
	if bottom.Sign() == 0 {
		bottom = big.NewInt(1)
	}
	return NewFraction(read(t, top), read(t, bottom)), new(big.Rat).SetFrac(top, bottom)
}

// sameFraction reports a fraction that is not the wanted one, or not in lowest terms.
func sameFraction(t *testing.T, what string, got Fraction, wanted *big.Rat) {
	t.Helper()
	same(t, what+" (numerator)", got.Top(), wanted.Num())
	same(t, what+" (denominator)", got.Bottom(), wanted.Denom())
}

func TestRatios(t *testing.T) {
	r := rand.New(rand.NewSource(4))
	list := samples(r)
	for range 3000 {
		x, u := random(t, r, list)
		y, v := random(t, r, list)
		factor := read(t, list[1+r.Intn(len(list)-1)])
		ratio := NewRatio(x.Top().Times(factor), x.Bottom().Times(factor))
		sameFraction(t, "Fraction", ratio.Fraction(), u)
		sameFraction(t, "Fraction", x.Ratio().Fraction(), u)
		same(t, "Top", x.Ratio().Top(), u.Num())
		same(t, "Bottom", x.Ratio().Bottom(), u.Denom())
		if got := ratio.Order(y.Ratio()); got != u.Cmp(v) || ratio.Sign() != u.Sign() {
			t.Errorf("%v and %v: order %d, sign %d", u, v, got, ratio.Sign())
		}
		if ratio.Order(x.Ratio()) != 0 || y.Ratio().Order(ratio) != v.Cmp(u) {
			t.Errorf("%v is not equal to itself", u)
		}
	}
	for _, zero := range []Ratio{{}, Fraction{}.Ratio(), NewRatio(NewInt(0), NewInt(-3)), NewRatio(NewInt(3), NewInt(0))} {
		sameFraction(t, "a ratio that is 0", zero.Fraction(), new(big.Rat))
		if zero.Top().Sign() != 0 || zero.Bottom().Sign() != 1 {
			t.Errorf("a ratio that is 0: %v over %v", zero.Top(), zero.Bottom())
		}
		if zero.Sign() != 0 || zero.Order(Ratio{}) != 0 || zero.Order(Whole(1).Ratio()) != -1 || Whole(-1).Ratio().Order(zero) != -1 {
			t.Errorf("a ratio that is 0: sign %d, order %d", zero.Sign(), zero.Order(Whole(1).Ratio()))
		}
	}
}

func TestInverses(t *testing.T) {
	r := rand.New(rand.NewSource(5))
	list := samples(r)
	for _, x := range list {
		for _, y := range list {
			if x.Sign() <= 0 || y.Sign() <= 0 || new(big.Int).GCD(nil, nil, x, y).Cmp(big.NewInt(1)) != 0 {
				continue
			}
			same(t, "Inverse", read(t, x).Inverse(read(t, y)), new(big.Int).ModInverse(x, y))
		}
	}
	same(t, "Inverse of 0 modulo 1", NewInt(0).Inverse(NewInt(1)), big.NewInt(0))
}

func TestRecoveredFractions(t *testing.T) {
	r := rand.New(rand.NewSource(7))
	recovered := 0
	for range 3000 {
		size := 1 + r.Intn(200)
		power := new(big.Int).Lsh(big.NewInt(1), uint(size))
		x := new(big.Rat).SetFrac(new(big.Int).Rand(r, power), new(big.Int).Add(big.NewInt(1), new(big.Int).Rand(r, new(big.Int).Sub(power, big.NewInt(1)))))
		if r.Intn(2) == 0 {
			x.Neg(x)
		}
		modulus := new(big.Int).Lsh(power, uint(size+1))
		modulus.Add(modulus, new(big.Int).Rand(r, power))
		inverse := new(big.Int).ModInverse(x.Denom(), modulus)
		if inverse == nil {
			continue
		}
		recovered++
		value := new(big.Int).Mul(x.Num(), inverse)
		value.Mod(value, modulus)
		sameFraction(t, "Recovered", read(t, value).Recovered(read(t, modulus), size), x)
	}
	if recovered < 1000 {
		t.Errorf("only %d fractions were recovered", recovered)
	}
	sameFraction(t, "Recovered of 0", NewInt(0).Recovered(NewInt(1), 1), new(big.Rat))
}

func TestNumbersUpTo(t *testing.T) {
	for _, row := range []struct {
		text  string
		limit int
		n     int
		ok    bool
	}{
		{"0", 0, 0, true}, {"0", 9, 0, true}, {"9", 9, 9, true}, {"10", 9, 0, false}, {"-1", 9, 0, false}, {"0", -1, 0, false}, {"9223372036854775807", math.MaxInt, math.MaxInt, true},
		{"9223372036854775808", math.MaxInt, 0, false}, {"18446744073709551616", 9, 0, false}, {"-18446744073709551616", 9, 0, false},
	} {
		a, _ := ParseInt(row.text)
		if n, ok := a.UpTo(row.limit); n != row.n || ok != row.ok {
			t.Errorf("%s up to %d: got %d, %v", row.text, row.limit, n, ok)
		}
	}
}

func TestSmallFractions(t *testing.T) {
	sameFraction(t, "the zero value", Fraction{}, new(big.Rat))
	sameFraction(t, "1 more than the zero value", Fraction{}.Plus(Whole(1)), big.NewRat(1, 1))
	sameFraction(t, "a denominator 0", NewFraction(NewInt(3), NewInt(0)), new(big.Rat))
	sameFraction(t, "a quotient by 0", Whole(3).Over(Whole(0)), new(big.Rat))
	sameFraction(t, "NewWhole", NewWhole(NewInt(-4)), big.NewRat(-4, 1))
	if !(Fraction{}).IsWhole() || !Whole(-2).IsWhole() || NewFraction(NewInt(3), NewInt(2)).IsWhole() {
		t.Error("IsWhole is wrong")
	}
	sameFraction(t, "Negated", NewFraction(NewInt(3), NewInt(-6)).Negated(), big.NewRat(1, 2))
	for _, row := range [][2]int{{2, 1}, {1, 2}, {4, 3}, {3, 4}, {-4, 9}} {
		if root, ok := NewFraction(NewInt(row[0]), NewInt(row[1])).Root(); ok || !root.IsZero() {
			t.Errorf("Root of %v: got %v", row, root)
		}
	}
}
