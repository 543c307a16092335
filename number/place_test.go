package number_test

import (
	"math/big"
	"math/rand"
	"testing"

	"baulk/api"
	"baulk/number"
)

// Tests of P1.4 (places).

func TestCheckPlace(t *testing.T) {
	for _, row := range []struct {
		p api.Place
		e api.Errno
	}{
		{place("1/2", "2"), api.OK}, {place("0", "0"), api.OK}, {place(nines(600), "-1/"+nines(600)), api.OK}, {api.Place{}, api.ErrForm},
		{place("1", ""), api.ErrForm}, {place("", "1"), api.ErrForm}, {place("1", large), api.ErrLarge}, {place(large, "x"), api.ErrLarge}, {place("x", large), api.ErrForm},
	} {
		wantError(t, "CheckPlace", number.CheckPlace(row.p), row.e)
	}
}

func TestProductsOfPlaces(t *testing.T) {
	for _, row := range []struct {
		a, b       api.Place
		dot, cross api.Rat
	}{
		{place("1/2", "2"), place("4", "-1"), "0", "-17/2"}, {place("1", "0"), place("0", "1"), "0", "1"}, {place("0", "1"), place("1", "0"), "0", "-1"},
		{place("3", "4"), place("3", "4"), "25", "0"}, {place("3", "4"), place("-6", "-8"), "-50", "0"}, {place("0", "0"), place("5", "7"), "0", "0"},
		{place("1/3", "1/5"), place("2/7", "-3"), "-53/105", "-37/35"},
	} {
		want(t, "Dot", both(number.Dot(row.a, row.b)), row.dot, api.OK)
		want(t, "Cross", both(number.Cross(row.a, row.b)), row.cross, api.OK)
	}
	want(t, "Square", both(number.Square(place("3/2", "2"))), "25/4", api.OK)
	want(t, "Square of the origin", both(number.Square(place("0", "0"))), "0", api.OK)
	want(t, "Square of negative numbers", both(number.Square(place("-3", "-4"))), "25", api.OK)
}

func TestErrorsOfPlaces(t *testing.T) {
	good, bad, big := place("1", "2"), place("1", ""), place(large, "1")
	for name, f := range map[string]func(a, b api.Place) (api.Rat, api.Errno){"Dot": number.Dot, "Cross": number.Cross} {
		want(t, name, both(f(bad, big)), "", api.ErrForm)
		want(t, name, both(f(big, bad)), "", api.ErrLarge)
		want(t, name, both(f(good, bad)), "", api.ErrForm)
		want(t, name, both(f(good, big)), "", api.ErrLarge)
		want(t, name, both(f(bad, bad)), "", api.ErrForm)
		want(t, name, both(f(big, big)), "", api.ErrLarge)
		want(t, name, both(f(place(ten(300), ten(301)), place(ten(300), "1"))), "", api.ErrLarge)
	}
	want(t, "Square", both(number.Square(bad)), "", api.ErrForm)
	want(t, "Square", both(number.Square(big)), "", api.ErrLarge)
	want(t, "Square with a large result", both(number.Square(place(ten(300), "0"))), "", api.ErrLarge)
	want(t, "Square up to 600 digits", both(number.Square(place(ten(299), "0"))), ten(598), api.OK)
	// Both products are too large, their sum is not.
	want(t, "Dot with large products", both(number.Dot(place(ten(500), ten(500)), place(ten(500), "-"+ten(500)))), "0", api.OK)
	want(t, "Cross with large products", both(number.Cross(place(ten(500), ten(500)), place(ten(500), ten(500)))), "0", api.OK)
	want(t, "Cross with large products", both(number.Cross(place(ten(500), ten(400)), place("-"+ten(500), "-"+ten(400)))), "0", api.OK)
}

func TestPlacesAgainstLibrary(t *testing.T) {
	r := rand.New(rand.NewSource(14))
	for i := range 600 {
		digits := []int{3, 30, 200}[i%3]
		x, y, u, v := someNumber(r, digits), someNumber(r, digits), someNumber(r, digits), someNumber(r, digits)
		a, b := place(text(x), text(y)), place(text(u), text(v))
		product := func(p, q *big.Rat) *big.Rat { return new(big.Rat).Mul(p, q) }
		dot, e := checked(new(big.Rat).Add(product(x, u), product(y, v)))
		want(t, "Dot", both(number.Dot(a, b)), dot, e)
		cross, e := checked(new(big.Rat).Sub(product(x, v), product(y, u)))
		want(t, "Cross", both(number.Cross(a, b)), cross, e)
		square, e := checked(new(big.Rat).Add(product(x, x), product(y, y)))
		want(t, "Square", both(number.Square(a)), square, e)
	}
}
