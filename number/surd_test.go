package number_test

import (
	"math/big"
	"math/rand"
	"testing"

	"baulk/api"
	"baulk/number"
)

// Tests of P1.3 (surds).

func TestCheckSurd(t *testing.T) {
	for _, row := range []struct {
		s api.Surd
		e api.Errno
	}{
		{surd("1", "2", "3"), api.OK}, {surd("-1/2", "-2/3", "0"), api.OK}, {surd("0", "0", "1/9"), api.OK}, {surd(nines(600), nines(600), nines(600)), api.OK},
		{api.Surd{}, api.ErrForm}, {surd("x", large, "-1"), api.ErrForm}, {surd(large, "x", "-1"), api.ErrLarge}, {surd("1", "x", "-1"), api.ErrForm},
		{surd("1", large, "x"), api.ErrLarge}, {surd("1", "1", ""), api.ErrForm}, {surd("1", "1", "-"+large), api.ErrLarge}, {surd("1", "1", "-1"), api.ErrRange},
		{surd("1", "0", "-1/2"), api.ErrRange},
	} {
		wantError(t, "CheckSurd", number.CheckSurd(row.s), row.e)
		_, e := number.SurdSign(row.s)
		wantError(t, "SurdSign", e, row.e)
		_, e = number.SurdSpan(row.s)
		if row.e != api.OK {
			wantError(t, "SurdSpan", e, row.e)
		}
	}
}

func TestSurdSign(t *testing.T) {
	for _, row := range []struct {
		s api.Surd
		n int
	}{
		{surd("1", "-1", "2"), -1}, {surd("3", "-2", "2"), 1}, {surd("-3", "2", "2"), -1}, {surd("-1", "1", "2"), 1}, {surd("-2", "1", "4"), 0}, {surd("2", "-1", "4"), 0},
		{surd("0", "-5", "0"), 0}, {surd("0", "0", "5"), 0}, {surd("0", "-5", "1/9"), -1}, {surd("0", "5", "1/9"), 1}, {surd("7", "-5", "0"), 1}, {surd("-7", "5", "0"), -1},
		{surd("7", "0", "3"), 1}, {surd("-7", "0", "3"), -1}, {surd("-1", "-1", "2"), -1}, {surd("1", "1", "2"), 1}, {surd("-1/2", "3/2", "1/9"), 0},
		{surd("99/70", "-1", "2"), 1}, {surd("7/5", "-1", "2"), -1}, {surd("-99/70", "1", "2"), -1}, {surd("0", "0", "0"), 0},
	} {
		want(t, "SurdSign", both(number.SurdSign(row.s)), row.n, api.OK)
	}
	want(t, "SurdSign of none", both(number.SurdSign(surd("1", "1", "-1"))), 0, api.ErrRange)
}

// rootOfTwo returns the number with 599 digits behind the point that is just below the root of 2, and the next one.
func rootOfTwo() (below, above api.Rat) {
	scale := new(big.Int).Exp(big.NewInt(10), big.NewInt(599), nil)
	square := new(big.Int).Mul(scale, scale)
	low := new(big.Int).Sqrt(square.Mul(square, big.NewInt(2)))
	high := new(big.Int).Add(low, big.NewInt(1))
	return text(new(big.Rat).SetFrac(low, scale)), text(new(big.Rat).SetFrac(high, scale))
}

func TestCloseSurds(t *testing.T) {
	below, above := rootOfTwo()
	want(t, "SurdSign above 0", both(number.SurdSign(surd("-"+below, "1", "2"))), 1, api.OK)
	want(t, "SurdSign below 0", both(number.SurdSign(surd("-"+above, "1", "2"))), -1, api.OK)
	want(t, "SurdOrder", both(number.SurdOrder(surd(below, "1", "3"), surd("0", "1", "2"))), 1, api.OK)
	want(t, "SurdOrder", both(number.SurdOrder(surd(below, "1", "3"), surd("0", "1", "10"))), -1, api.OK)
	want(t, "SurdOrder of a number", both(number.SurdOrder(surd(below, "0", "0"), surd("0", "1", "2"))), -1, api.OK)
	want(t, "SurdOrder of a number", both(number.SurdOrder(surd(above, "0", "0"), surd("0", "1", "2"))), 1, api.OK)
	// The gap between the roots of two neighbours is small, and the greater one is found all the same.
	n, m := nines(600), nines(599)+"8"
	want(t, "SurdOrder of neighbours", both(number.SurdOrder(surd("1", "1", n), surd("1", "1", m))), 1, api.OK)
	want(t, "SurdOrder of neighbours", both(number.SurdOrder(surd("1", "-1", n), surd("1", "-1", m))), -1, api.OK)
	want(t, "SurdOrder of neighbours", both(number.SurdOrder(surd("1/"+ten(299), "1", m), surd("0", "1", n))), 1, api.OK)
	want(t, "SurdOrder of neighbours", both(number.SurdOrder(surd("1/"+ten(301), "1", m), surd("0", "1", n))), -1, api.OK)
}

func TestSurdOrder(t *testing.T) {
	for _, row := range []struct {
		s, t api.Surd
		n    int
	}{
		{surd("1", "1", "2"), surd("0", "1", "6"), -1}, {surd("0", "2", "2"), surd("0", "1", "8"), 0}, {surd("0", "1", "3"), surd("0", "1", "2"), 1},
		{surd("-1", "1", "3"), surd("1", "-1", "3"), 1}, {surd("5", "0", "2"), surd("0", "1", "25"), 0}, {surd("0", "-1", "3"), surd("0", "-1", "2"), -1},
		{surd("1", "2", "9"), surd("4", "3", "1"), 0}, {surd("1", "1", "4"), surd("0", "1", "9"), 0}, {surd("7", "5", "0"), surd("7", "0", "5"), 0},
		{surd("1", "1", "2"), surd("3", "-1", "3"), 1}, {surd("0", "1", "2"), surd("3", "-1", "3"), 1}, {surd("0", "1", "2"), surd("4", "-1", "3"), -1},
		{surd("10", "-1", "2"), surd("1", "1", "3"), 1}, {surd("-10", "1", "2"), surd("1", "-1", "3"), -1}, {surd("1", "1", "1/2"), surd("1", "1/2", "2"), 0},
		{surd("0", "3", "2"), surd("1", "1", "10"), 1}, {surd("0", "3", "2"), surd("2", "1", "10"), -1}, {surd("1", "1", "3"), surd("1", "1", "2"), 1},
	} {
		want(t, "SurdOrder", both(number.SurdOrder(row.s, row.t)), row.n, api.OK)
		want(t, "SurdOrder the other way", both(number.SurdOrder(row.t, row.s)), -row.n, api.OK)
		want(t, "SurdOrder with itself", both(number.SurdOrder(row.s, row.s)), 0, api.OK)
	}
}

func TestSurdSpan(t *testing.T) {
	for _, row := range []struct {
		s         api.Surd
		low, high api.Rat
		e         api.Errno
	}{
		{surd("1", "2", "3"), "558/125", "2233/500", api.OK}, {surd("1", "-2", "3"), "-1233/500", "-308/125", api.OK}, {surd("7", "0", "3"), "7", "7", api.OK},
		{surd("7", "-5", "0"), "7", "7", api.OK}, {surd("1/2", "3", "25/4"), "8", "8", api.OK}, {surd("0", "1", "2"), "707/500", "283/200", api.OK},
		{surd("0", nines(600), "2"), "", "", api.ErrLarge}, {surd("0", nines(600), "1"), nines(600), nines(600), api.OK},
		{surd("0", "1/"+nines(600), "2"), "", "", api.ErrLarge},
	} {
		want(t, "SurdSpan", both(number.SurdSpan(row.s)), span(row.low, row.high), row.e)
	}
	// The product is too large, but not the sum.
	want(t, "SurdSpan with a large product", both(number.SurdSpan(surd("-"+nines(600), ten(599), "100"))), span("1", "1"), api.OK)
}

func TestSurdArithmetic(t *testing.T) {
	want(t, "SurdAdd", both(number.SurdAdd(surd("1", "2", "3"), surd("4", "-2", "3"))), surd("5", "0", "3"), api.OK)
	want(t, "SurdAdd", both(number.SurdAdd(surd("1/2", "2/3", "1/5"), surd("1/3", "1/6", "1/5"))), surd("5/6", "5/6", "1/5"), api.OK)
	want(t, "SurdMul", both(number.SurdMul(surd("1", "1", "2"), surd("1", "-1", "2"))), surd("-1", "0", "2"), api.OK)
	want(t, "SurdMul", both(number.SurdMul(surd("1", "2", "3"), surd("4", "5", "3"))), surd("34", "13", "3"), api.OK)
	want(t, "SurdMul with the root of 0", both(number.SurdMul(surd("2", "3", "0"), surd("5", "7", "0"))), surd("10", "29", "0"), api.OK)
	want(t, "SurdAdd of different roots", both(number.SurdAdd(surd("1", "0", "3"), surd("1", "0", "2"))), api.Surd{}, api.ErrShape)
	want(t, "SurdMul of different roots", both(number.SurdMul(surd("1", "2", "2"), surd("1", "1", "8"))), api.Surd{}, api.ErrShape)
	want(t, "SurdAdd to 601 digits", both(number.SurdAdd(surd(nines(600), "1", "3"), surd("1", "1", "3"))), api.Surd{}, api.ErrLarge)
	want(t, "SurdAdd to 601 digits", both(number.SurdAdd(surd("1", nines(600), "3"), surd("1", "1", "3"))), api.Surd{}, api.ErrLarge)
	want(t, "SurdMul to 601 digits", both(number.SurdMul(surd(ten(300), "0", "3"), surd(ten(300), "0", "3"))), api.Surd{}, api.ErrLarge)
	want(t, "SurdMul to 601 digits", both(number.SurdMul(surd("0", ten(300), "1"), surd(ten(300), "0", "1"))), api.Surd{}, api.ErrLarge)
	// A A' and B B' D are too large, but not their sum.
	want(t, "SurdMul with large products", both(number.SurdMul(surd(ten(400), ten(400), "1"), surd(ten(400), "-"+ten(400), "1"))), surd("0", "0", "1"), api.OK)
}

func TestErrorsOfSurds(t *testing.T) {
	good, below, bad, big := surd("1", "1", "2"), surd("1", "1", "-2"), surd("1", "x", "2"), surd("1", large, "3")
	for name, f := range map[string]func(s, t api.Surd) (api.Surd, api.Errno){"SurdAdd": number.SurdAdd, "SurdMul": number.SurdMul} {
		want(t, name, both(f(below, bad)), api.Surd{}, api.ErrRange)
		want(t, name, both(f(bad, below)), api.Surd{}, api.ErrForm)
		want(t, name, both(f(good, big)), api.Surd{}, api.ErrLarge)
		want(t, name, both(f(good, below)), api.Surd{}, api.ErrRange)
	}
	want(t, "SurdOrder", both(number.SurdOrder(below, bad)), 0, api.ErrRange)
	want(t, "SurdOrder", both(number.SurdOrder(bad, below)), 0, api.ErrForm)
	want(t, "SurdOrder", both(number.SurdOrder(good, big)), 0, api.ErrLarge)
	want(t, "SurdOrder", both(number.SurdOrder(good, below)), 0, api.ErrRange)
}

// someSurd returns a surd of small numbers, so that equal ones occur.
func someSurd(r *rand.Rand) api.Surd {
	root := []api.Rat{"0", "1", "2", "3", "4", "6", "8", "9", "12", "18", "1/2", "1/4", "2/9", "50"}[r.Intn(14)]
	part := []api.Rat{"0", "0", "1", "-1", "2", "-2", "1/2", "-1/2", "3", "-3", "7/5", "-7/5", "17/12"}
	return surd(part[r.Intn(len(part))], part[r.Intn(len(part))], root)
}

// asFloat returns a surd as a float of the library, with so many digits that it is near 0 only if it is 0.
func asFloat(t *testing.T, s api.Surd) *big.Float {
	t.Helper()
	float := func(a api.Rat) *big.Float { return new(big.Float).SetPrec(2000).SetRat(value(t, a)) }
	root := new(big.Float).SetPrec(2000).Sqrt(float(s.D))
	return root.Add(float(s.A), root.Mul(float(s.B), root))
}

// sign returns the sign of such a float.
func sign(x *big.Float) int {
	if x.Sign() == 0 || x.MantExp(nil) < -1500 {
		return 0
	}
	return x.Sign()
}

func TestSurdsAgainstLibrary(t *testing.T) {
	r := rand.New(rand.NewSource(15))
	equal := 0
	for i := range 20000 {
		s, u := someSurd(r), someSurd(r)
		if i%5 == 0 {
			s = surd(text(someNumber(r, 12)), text(someNumber(r, 12)), text(new(big.Rat).Abs(someNumber(r, 12))))
		}
		x, y := asFloat(t, s), asFloat(t, u)
		want(t, "SurdSign", both(number.SurdSign(s)), sign(x), api.OK)
		n := sign(new(big.Float).SetPrec(2000).Sub(x, y))
		want(t, "SurdOrder", both(number.SurdOrder(s, u)), n, api.OK)
		if n == 0 {
			equal++
		}
	}
	if equal < 100 {
		t.Errorf("only %d pairs of equal surds", equal)
	}
}
