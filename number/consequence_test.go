package number_test

import (
	"math/big"
	"math/rand"
	"slices"
	"testing"

	"baulk/api"
	"baulk/number"
)

// Tests of P1.6 (consequences), which hold between the results of several functions.

// inside reports a number that is not in a span.
func inside(t *testing.T, what string, a pair[api.Rat], s pair[api.Span]) {
	t.Helper()
	if a.err != api.OK || s.err != api.OK {
		t.Errorf("%s: the errors %d and %d", what, a.err, s.err)
		return
	}
	ordered(t, what, s.value.Low, a.value, s.value.High)
}

// someInside returns a number of a span: an end, or one between both.
func someInside(r *rand.Rand, low, high *big.Rat) api.Rat {
	share := big.NewRat(int64(r.Intn(11)), 10)
	way := new(big.Rat).Sub(high, low)
	return text(way.Add(low, way.Mul(way, share)))
}

func TestResultsAreInSpans(t *testing.T) {
	r := rand.New(rand.NewSource(21))
	for i := range 1000 {
		digits := []int{1, 3, 30}[i%3]
		low, high := someSpan(r, digits)
		from, to := someSpan(r, digits)
		s, u := span(text(low), text(high)), span(text(from), text(to))
		x, y := someInside(r, low, high), someInside(r, from, to)
		inside(t, "a sum", both(number.Add(x, y)), both(number.Plus(s, u)))
		inside(t, "a difference", both(number.Sub(x, y)), both(number.Minus(s, u)))
		inside(t, "a product", both(number.Mul(x, y)), both(number.Times(s, u)))
		if from.Sign()*to.Sign() > 0 {
			inside(t, "a quotient", both(number.Div(x, y)), both(number.Over(s, u)))
		}
		square, _ := number.Mul(x, x)
		root := both(number.Root(square))
		inside(t, "the root of a square", both(text(new(big.Rat).Abs(value(t, x))), api.OK), root)
	}
}

// moreSurds returns surds of small and of long numbers.
func moreSurds(r *rand.Rand, n int) []api.Surd {
	list := make([]api.Surd, n)
	for i := range list {
		if list[i] = someSurd(r); i%3 == 0 {
			d := text(new(big.Rat).Abs(someNumber(r, 30)))
			list[i] = surd(text(someNumber(r, 15)), text(someNumber(r, 15)), d)
		}
	}
	return list
}

func TestSurdsAreInSpans(t *testing.T) {
	for _, s := range moreSurds(rand.New(rand.NewSource(22)), 1000) {
		u, e := number.SurdSpan(s)
		wantError(t, "SurdSpan", e, api.OK)
		wantError(t, "CheckSpan", number.CheckSpan(u), api.OK)
		below, _ := number.SurdOrder(surd(u.Low, "0", s.D), s)
		above, _ := number.SurdOrder(s, surd(u.High, "0", "7"))
		if below > 0 || above > 0 {
			t.Errorf("%v is not in its span %v", s, u)
		}
		sign, _ := number.SurdSign(s)
		low, high := order(t, u.Low, "0"), order(t, u.High, "0")
		if low == high && sign != low {
			t.Errorf("%v has the sign %d, and the span %v", s, sign, u)
		}
	}
}

// surdOrder returns the order of two surds.
func surdOrder(t *testing.T, s, u api.Surd) int {
	t.Helper()
	n, e := number.SurdOrder(s, u)
	wantError(t, "SurdOrder", e, api.OK)
	return n
}

func TestSurdsAreOrderedTotally(t *testing.T) {
	list := moreSurds(rand.New(rand.NewSource(23)), 120)
	slices.SortFunc(list, func(s, u api.Surd) int { return surdOrder(t, s, u) })
	for i, s := range list {
		for j, u := range list {
			n := surdOrder(t, s, u)
			if n != -surdOrder(t, u, s) || i < j && n > 0 || i > j && n < 0 || i == j && n != 0 {
				t.Errorf("%v and %v at the places %d and %d have the order %d", s, u, i, j, n)
			}
		}
		sign, _ := number.SurdSign(s)
		if surdOrder(t, s, surd("0", "0", "5")) != sign {
			t.Errorf("%v has the sign %d, but not this order with 0", s, sign)
		}
	}
}

func TestOrderOfSurdsGoesAlongWithSums(t *testing.T) {
	r := rand.New(rand.NewSource(24))
	for range 2000 {
		s, u, v := someSurd(r), someSurd(r), someSurd(r)
		u.D, v.D = s.D, s.D
		left, e := number.SurdAdd(s, v)
		wantError(t, "SurdAdd", e, api.OK)
		right, _ := number.SurdAdd(u, v)
		if surdOrder(t, s, u) != surdOrder(t, left, right) {
			t.Errorf("%v and %v have another order than with %v", s, u, v)
		}
	}
}

func TestProductWithConjugateHasNoRoot(t *testing.T) {
	for _, s := range moreSurds(rand.New(rand.NewSource(25)), 500) {
		minus, _ := number.Sub("0", s.B)
		product, e := number.SurdMul(s, surd(s.A, minus, s.D))
		wantError(t, "SurdMul", e, api.OK)
		if product.B != "0" || product.D != s.D {
			t.Errorf("the product of %v and its conjugate is %v", s, product)
		}
	}
}

func TestSquaresOfProductsOfPlaces(t *testing.T) {
	r := rand.New(rand.NewSource(26))
	for i := range 400 {
		digits := []int{2, 12, 60}[i%3]
		some := func() api.Rat { return text(someNumber(r, digits)) }
		a, b := place(some(), some()), place(some(), some())
		dot, _ := number.Dot(a, b)
		cross, _ := number.Cross(a, b)
		first, _ := number.Square(a)
		second, _ := number.Square(b)
		want(t, "the squares of both products", both(number.Square(place(dot, cross))), must(t)(number.Mul(first, second)), api.OK)
	}
}

// must returns a function that returns a result that has no error.
func must(t *testing.T) func(api.Rat, api.Errno) api.Rat {
	t.Helper()
	return func(a api.Rat, e api.Errno) api.Rat {
		t.Helper()
		wantError(t, "a result", e, api.OK)
		return a
	}
}

func TestSharesAddUp(t *testing.T) {
	r := rand.New(rand.NewSource(27))
	for range 1000 {
		total, weights := r.Intn(api.MaxNumber+1), make([]int, 1+r.Intn(api.MaxList))
		sum := 0
		for i := range weights {
			weights[i] = r.Intn([]int{2, 10, api.MaxNumber + 1}[r.Intn(3)])
			sum += weights[i]
		}
		if sum == 0 {
			continue
		}
		shares, e := number.Shares(total, weights)
		wantError(t, "Shares", e, api.OK)
		left := total
		for i, share := range shares {
			left -= share
			if part := total * weights[i] / sum; share < part || share > part+1 {
				t.Errorf("the share of %d for %d of %d is %d", total, weights[i], sum, share)
			}
		}
		if left != 0 {
			t.Errorf("the shares of %d are %d too few", total, left)
		}
	}
}

func TestDrawnOrdersHaveEachElementOnce(t *testing.T) {
	r := rand.New(rand.NewSource(28))
	for n := range api.MaxList + 1 {
		list, e := number.Draw(1+r.Intn(2147483646), n)
		wantError(t, "Draw", e, api.OK)
		slices.Sort(list)
		for i, x := range list {
			if i != x || len(list) != n {
				t.Fatalf("the drawn order of %d elements has these: %v", n, list)
			}
		}
	}
}

func TestBinomialsAreSumsOfNeighbours(t *testing.T) {
	for n := 1; n <= number.MaxSet; n++ {
		for k := 1; k < n; k++ {
			left, _ := number.Binomial(n-1, k-1)
			right, _ := number.Binomial(n-1, k)
			want(t, "the sum of neighbours", both(number.Add(left, right)), must(t)(number.Binomial(n, k)), api.OK)
		}
	}
}
