package exact

import (
	"strings"
	"testing"

	"baulk/api"
)

func TestTexts(t *testing.T) {
	nines := api.Rat(strings.Repeat("9", api.MaxDigits))
	for _, a := range []api.Rat{"0", "7", "-7", "3/2", "-3/2", nines, "-" + nines, "1/" + nines, "12345678901234567890/12345678901234567891"} {
		x, e := Read(a)
		if e != api.OK {
			t.Errorf("Read of %s: the error %d", a, e)
		}
		if got, e := Write(x); got != a || e != api.OK {
			t.Errorf("Write of %s: got %s and the error %d", a, got, e)
		}
	}
	for e, list := range map[api.Errno][]api.Rat{
		api.ErrForm:  {"", "-", "-0", "00", "01", "+1", "1.5", "1/", "/2", "1/1", "1/0", "0/2", "2/4", "1/-2", "1/02", "1/2/3", " 1", "1\n", "１", "x/" + nines + "9"},
		api.ErrLarge: {nines + "0", "-" + nines + "0", "1/" + nines + "1", "2/" + nines + "0"},
	} {
		for _, a := range list {
			if x, got := Read(a); got != e || !x.IsZero() {
				t.Errorf("Read of %s: got the error %d, want %d", a, got, e)
			}
		}
	}
	x, _ := Read(nines)
	if n := x.Top().Bits(); n > MaxBits {
		t.Errorf("the greatest number has %d binary digits", n)
	}
	for _, large := range []Fraction{x.Plus(Whole(1)), x.Plus(Whole(1)).Negated(), Whole(1).Over(x.Plus(Whole(1)))} {
		if got, e := Write(large); got != "" || e != api.ErrLarge {
			t.Errorf("Write of 601 digits: got %s and the error %d", got, e)
		}
	}
}
