package number_test

import (
	"math"
	"math/big"
	"math/rand"
	"strings"
	"testing"

	"baulk/api"
	"baulk/number"
)

// Tests of P1.1 (numbers).

func TestNames(t *testing.T) {
	for _, s := range []string{"a", "z", "A", "Z", "ann", "a_1", "B29", "x__", "a0", "a9", strings.Repeat("a", api.MaxName)} {
		if !number.IsName(s) {
			t.Errorf("IsName(%q): got false", s)
		}
	}
	for _, s := range []string{"", "_", "_a", "0", "1a", "a b", " a", "a ", "a-b", "a.b", "a\n", "a\x00", "\xff", "a\xff", "ä", "aä", "aΑ",
		"a@", "a[", "a`", "a{", "a/", "a:", "@", "[", "`", "{", strings.Repeat("a", api.MaxName+1)} {
		if number.IsName(s) {
			t.Errorf("IsName(%q): got true", s)
		}
	}
}

func TestCheck(t *testing.T) {
	for _, a := range []api.Rat{"0", "7", "-7", "10", "3/2", "-3/2", "1/2", "10/21", "123456789012345678901234567890/17",
		nines(600), "-" + nines(600), "1/" + nines(600), "-" + ten(599) + "/" + nines(600)} {
		wantError(t, "Check of "+string(a), number.Check(a), api.OK)
	}
	for _, a := range []api.Rat{"", "-", "/", "-0", "00", "01", "-01", "+1", "--1", "1-", " 1", "1 ", "1_0", "1.5", "1e5", "x", "0x1", "١", "1\n", "\x00",
		"1/", "/2", "-/2", "1/0", "1/1", "0/1", "0/0", "1/02", "1/-2", "1/+2", "-1/-2", "-0/5", "01/2", "1/2/3", "1//2", "1/ 2", "1/x"} {
		wantError(t, "Check of "+string(a), number.Check(a), api.ErrForm)
	}
	for _, a := range []api.Rat{"2/4", "-2/4", "6/3", "3/3", "0/5", "0/2", ten(599) + "/2", "2/" + ten(599)} {
		wantError(t, "Check with a common divisor, "+string(a), number.Check(a), api.ErrForm)
	}
	for _, a := range []api.Rat{large, "-" + large, large + "/3", "1/" + large, "-" + large + "/" + large, nines(601), nines(5000)} {
		wantError(t, "Check with too many digits, "+string(a), number.Check(a), api.ErrLarge)
	}
}

// The form is looked at before the digits, and these before common divisors.
func TestOrderOfErrorsOfNumbers(t *testing.T) {
	for _, a := range []api.Rat{"0" + large, large + "/0", large + "/1", "-0/" + large, large + "/x", large + "x", "x/" + large} {
		wantError(t, "Check of a wrong form with too many digits", number.Check(a), api.ErrForm)
	}
	for _, a := range []api.Rat{large + "/2", "2/" + large, "0/" + large} {
		wantError(t, "Check of too many digits with a common divisor", number.Check(a), api.ErrLarge)
	}
}

func TestOf(t *testing.T) {
	for _, row := range []struct {
		num, den int
		a        api.Rat
		e        api.Errno
	}{
		{10, -4, "-5/2", api.OK}, {10, 4, "5/2", api.OK}, {-10, -4, "5/2", api.OK}, {0, 7, "0", api.OK}, {0, -7, "0", api.OK},
		{7, 1, "7", api.OK}, {7, -1, "-7", api.OK}, {7, 7, "1", api.OK}, {1, 0, "", api.ErrZero}, {0, 0, "", api.ErrZero},
		{math.MinInt64, 1, "-9223372036854775808", api.OK}, {math.MinInt64, -1, "9223372036854775808", api.OK},
		{math.MinInt64, math.MinInt64, "1", api.OK}, {1, math.MinInt64, "-1/9223372036854775808", api.OK},
		{math.MaxInt64, math.MinInt64, "-9223372036854775807/9223372036854775808", api.OK},
	} {
		want(t, "Of", both(number.Of(row.num, row.den)), row.a, row.e)
	}
}

func TestArithmetic(t *testing.T) {
	want(t, "Add", both(number.Add("1/6", "1/3")), "1/2", api.OK)
	want(t, "Add of opposite numbers", both(number.Add("5/7", "-5/7")), "0", api.OK)
	want(t, "Sub", both(number.Sub("1/6", "1/3")), "-1/6", api.OK)
	want(t, "Sub below 0", both(number.Sub("0", "5")), "-5", api.OK)
	want(t, "Mul", both(number.Mul("4/3", "-3/8")), "-1/2", api.OK)
	want(t, "Mul by 0", both(number.Mul("0", "-3/8")), "0", api.OK)
	want(t, "Div", both(number.Div("2/3", "-4/3")), "-1/2", api.OK)
	want(t, "Div of 0", both(number.Div("0", "-4/3")), "0", api.OK)
	want(t, "Div by 0", both(number.Div("1", "0")), "", api.ErrZero)
	want(t, "Div of 0 by 0", both(number.Div("0", "0")), "", api.ErrZero)
}

func TestLargeResults(t *testing.T) {
	want(t, "Add to 600 digits", both(number.Add(nines(599), "1")), ten(599), api.OK)
	want(t, "Add to 601 digits", both(number.Add(nines(600), "1")), "", api.ErrLarge)
	want(t, "Sub to 600 digits", both(number.Sub("-"+nines(599), "1")), "-"+ten(599), api.OK)
	want(t, "Sub to 601 digits", both(number.Sub("-"+nines(600), "1")), "", api.ErrLarge)
	want(t, "Mul to 600 digits", both(number.Mul(ten(300), ten(299))), ten(599), api.OK)
	want(t, "Mul to 601 digits", both(number.Mul(ten(300), ten(300))), "", api.ErrLarge)
	want(t, "Div to a denominator of 600 digits", both(number.Div("1/"+ten(300), ten(299))), "1/"+ten(599), api.OK)
	want(t, "Div to a denominator of 601 digits", both(number.Div("1/"+ten(300), ten(300))), "", api.ErrLarge)
	want(t, "Add to a denominator of 601 digits", both(number.Add("1/"+ten(300), "1/"+nines(301))), "", api.ErrLarge)
	// What is too large only on the way is no error.
	want(t, "Add with a common denominator", both(number.Add("1/"+nines(600), nines(599)+"8/"+nines(600))), "1", api.OK)
	want(t, "Mul of inverse numbers", both(number.Mul(ten(599)+"/"+nines(600), nines(600)+"/"+ten(599))), "1", api.OK)
	want(t, "Div by itself", both(number.Div(ten(599)+"/"+nines(600), ten(599)+"/"+nines(600))), "1", api.OK)
}

func TestOrder(t *testing.T) {
	for _, row := range []struct {
		a, b api.Rat
		n    int
		e    api.Errno
	}{
		{"-1/2", "-2/3", 1, api.OK}, {"1/2", "2/3", -1, api.OK}, {"3/2", "3/2", 0, api.OK}, {"0", "0", 0, api.OK}, {"-1", "1", -1, api.OK},
		{"0", "-1/2", 1, api.OK}, {"9", "10", -1, api.OK}, {"-9", "-10", 1, api.OK}, {nines(600), "-" + nines(600), 1, api.OK},
		{ten(599) + "/" + nines(599), nines(599) + "8/" + nines(599), -1, api.OK},
		{"", "1", 0, api.ErrForm}, {"1", "", 0, api.ErrForm}, {large, "", 0, api.ErrLarge}, {"", large, 0, api.ErrForm}, {"1", large, 0, api.ErrLarge},
	} {
		want(t, "Order of "+string(row.a)+" and "+string(row.b), both(number.Order(row.a, row.b)), row.n, row.e)
	}
}

func TestFloor(t *testing.T) {
	for _, row := range []struct {
		a, b api.Rat
		e    api.Errno
	}{
		{"-5/2", "-3", api.OK}, {"5/2", "2", api.OK}, {"1/2", "0", api.OK}, {"-1/2", "-1", api.OK}, {"0", "0", api.OK}, {"7", "7", api.OK},
		{"-7", "-7", api.OK}, {"-" + nines(600), "-" + nines(600), api.OK}, {"1/" + nines(600), "0", api.OK}, {"-1/" + nines(600), "-1", api.OK},
		{"", "", api.ErrForm}, {"4/2", "", api.ErrForm}, {large, "", api.ErrLarge},
	} {
		want(t, "Floor of "+string(row.a), both(number.Floor(row.a)), row.b, row.e)
	}
}

// The first argument with an error gives it, also before a divisor 0.
func TestErrorsOfArguments(t *testing.T) {
	for name, f := range map[string]func(a, b api.Rat) (api.Rat, api.Errno){"Add": number.Add, "Sub": number.Sub, "Mul": number.Mul, "Div": number.Div} {
		want(t, name, both(f("x", large)), "", api.ErrForm)
		want(t, name, both(f(large, "x")), "", api.ErrLarge)
		want(t, name, both(f("1", "2/4")), "", api.ErrForm)
		want(t, name, both(f("1", large)), "", api.ErrLarge)
		want(t, name, both(f("", "0")), "", api.ErrForm)
	}
}

func TestNumbersAgainstLibrary(t *testing.T) {
	r := rand.New(rand.NewSource(11))
	for i := range 1500 {
		digits := []int{3, 25, 310, 600}[i%4]
		x, y := someNumber(r, digits), someNumber(r, digits)
		a, b := text(x), text(y)
		sum, e := checked(new(big.Rat).Add(x, y))
		want(t, "Add", both(number.Add(a, b)), sum, e)
		gap, e := checked(new(big.Rat).Sub(x, y))
		want(t, "Sub", both(number.Sub(a, b)), gap, e)
		product, e := checked(new(big.Rat).Mul(x, y))
		want(t, "Mul", both(number.Mul(a, b)), product, e)
		if y.Sign() != 0 {
			quotient, e := checked(new(big.Rat).Quo(x, y))
			want(t, "Div", both(number.Div(a, b)), quotient, e)
		}
		want(t, "Order", both(number.Order(a, b)), x.Cmp(y), api.OK)
		floor := new(big.Rat).SetInt(new(big.Int).Div(x.Num(), x.Denom()))
		want(t, "Floor", both(number.Floor(a)), text(floor), api.OK)
	}
}
