package exact

import (
	"math/big"
	"math/rand"
	"strings"
	"testing"

	"baulk/api"
)

// small returns a fraction of small integers, and its like of the library.
func small(r *rand.Rand) (Fraction, *big.Rat) {
	top, bottom := r.Intn(13)-6, 1+r.Intn(4)
	return NewFraction(NewInt(top), NewInt(bottom)), big.NewRat(int64(top), int64(bottom))
}

// surdWith returns a surd with a root, and its numbers A and B of the library.
func surdWith(r *rand.Rand, d Fraction) (Surd, *big.Rat, *big.Rat) {
	a, u := small(r)
	b, v := small(r)
	return Surd{A: a, B: b, D: d}, u, v
}

// float returns the value of A + B times the root of D.
func float(a, b, d *big.Rat) *big.Float {
	real := func(x *big.Rat) *big.Float { return new(big.Float).SetPrec(400).SetRat(x) }
	root := new(big.Float).Sqrt(real(d))
	return new(big.Float).Add(real(a), root.Mul(root, real(b)))
}

// signOf returns the sign of a value, where one that is very small is 0.
func signOf(x *big.Float) int {
	if x.Sign() != 0 && x.MantExp(nil) < -200 {
		return 0
	}
	return x.Sign()
}

func TestSurds(t *testing.T) {
	r := rand.New(rand.NewSource(6))
	zeros := 0
	for range 3000 {
		d, w := small(r)
		if d.Sign() < 0 {
			d, w = d.Negated(), new(big.Rat).Neg(w)
		}
		s, a, b := surdWith(r, d)
		u, x, y := surdWith(r, d)
		product := func(p, q *big.Rat) *big.Rat { return new(big.Rat).Mul(p, q) }
		for what, row := range map[string]struct {
			got  Surd
			a, b *big.Rat
		}{
			"Plus":   {s.Plus(u), new(big.Rat).Add(a, x), new(big.Rat).Add(b, y)},
			"Minus":  {s.Minus(u), new(big.Rat).Sub(a, x), new(big.Rat).Sub(b, y)},
			"Times":  {s.Times(u), new(big.Rat).Add(product(a, x), product(product(b, y), w)), new(big.Rat).Add(product(a, y), product(b, x))},
			"Scaled": {s.Scaled(u.A), product(a, x), product(b, x)},
		} {
			sameFraction(t, what+" (A)", row.got.A, row.a)
			sameFraction(t, what+" (B)", row.got.B, row.b)
			sameFraction(t, what+" (D)", row.got.D, w)
		}
		if wanted := signOf(float(a, b, w)); s.Sign() != wanted {
			t.Errorf("the sign of %v + %v root %v: got %d", a, b, w, s.Sign())
		}
		e, v := small(r)
		u.D = e.Times(e)
		wanted := signOf(new(big.Float).Sub(float(a, b, w), float(x, y, product(v, v))))
		if wanted == 0 {
			zeros++
		}
		if got := s.Order(u); got != wanted || u.Order(s) != -wanted {
			t.Errorf("%v + %v root %v and %v + %v times %v: got the order %d", a, b, w, x, y, v, got)
		}
	}
	if zeros < 20 {
		t.Errorf("only %d surds are equal", zeros)
	}
	if (Surd{}).Sign() != 0 || (Surd{}).Order(Surd{B: Whole(1)}) != 0 {
		t.Error("the zero value is not 0")
	}
}

func TestTextsOfSurds(t *testing.T) {
	large := api.Rat("1" + strings.Repeat("0", api.MaxDigits))
	for _, row := range []struct {
		s api.Surd
		e api.Errno
	}{
		{api.Surd{A: "1", B: "-1/2", D: "3"}, api.OK}, {api.Surd{A: "0", B: "0", D: "0"}, api.OK}, {api.Surd{}, api.ErrForm}, {api.Surd{A: "1", B: "x", D: "-1"}, api.ErrForm}, {api.Surd{A: large, B: "x", D: "-1"}, api.ErrLarge}, {api.Surd{A: "1", B: "2", D: "-1"}, api.ErrRange}, {api.Surd{A: "1", B: "2", D: "2/2"}, api.ErrForm},
	} {
		s, e := ReadSurd(row.s)
		if e != row.e {
			t.Errorf("ReadSurd of %v: got the error %d, want %d", row.s, e, row.e)
		}
		if e != api.OK {
			continue
		}
		if got, e := WriteSurd(s); got != row.s || e != api.OK {
			t.Errorf("WriteSurd of %v: got %v and the error %d", row.s, got, e)
		}
	}
	x := NewFraction(NewInt(1), power(2000))
	for _, s := range []Surd{{A: x}, {B: x}, {D: x}} {
		if got, e := WriteSurd(s); got != (api.Surd{}) || e != api.ErrLarge {
			t.Errorf("WriteSurd of a large number: got %v and the error %d", got, e)
		}
	}
}
