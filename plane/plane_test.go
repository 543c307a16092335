package plane

import (
	"math/big"
	"math/rand"
	"strings"
	"testing"

	"baulk/api"
	"baulk/exact"
)

// random returns a number of the library, and its text.
func random(r *rand.Rand) (*big.Rat, api.Rat) {
	x := big.NewRat(int64(r.Intn(41)-20), int64(1+r.Intn(12)))
	if r.Intn(3) == 0 {
		digits := strings.Repeat(string(rune('1'+r.Intn(9))), 1+r.Intn(60))
		y, _ := new(big.Rat).SetString(digits + "/" + digits[1:] + "7")
		x.Mul(x, y)
	}
	return x, api.Rat(x.RatString())
}

// randomPlace returns a place, and its coordinates as numbers of the library.
func randomPlace(t *testing.T, r *rand.Rand) (Place, [2]*big.Rat) {
	t.Helper()
	x, first := random(r)
	y, second := random(r)
	p, e := Read(api.Place{X: first, Y: second})
	if e != api.OK {
		t.Fatalf("Read of %s and %s: the error %d", first, second, e)
	}
	same(t, "Read", p, x, y)
	return p, [2]*big.Rat{x, y}
}

// randomPoint returns a point, and its coordinates.
func randomPoint(r *rand.Rand) (api.Point, [2]*big.Rat) {
	p := api.Point{X: r.Intn(7) - 3, Y: r.Intn(7) - 3}
	return p, [2]*big.Rat{big.NewRat(int64(p.X), 1), big.NewRat(int64(p.Y), 1)}
}

// same reports a place that does not have the wanted coordinates.
func same(t *testing.T, what string, p Place, x, y *big.Rat) {
	t.Helper()
	got, e := p.Write()
	if wanted := (api.Place{X: api.Rat(x.RatString()), Y: api.Rat(y.RatString())}); got != wanted || e != api.OK {
		t.Errorf("%s: got %v and the error %d, want %v", what, got, e, wanted)
	}
}

// sum, less and times compute with numbers of the library.
func sum(x, y *big.Rat) *big.Rat { return new(big.Rat).Add(x, y) }

func less(x, y *big.Rat) *big.Rat { return new(big.Rat).Sub(x, y) }

func times(x, y *big.Rat) *big.Rat { return new(big.Rat).Mul(x, y) }

func TestPlaces(t *testing.T) {
	r := rand.New(rand.NewSource(1))
	for range 500 {
		p, u := randomPlace(t, r)
		q, v := randomPlace(t, r)
		same(t, "Plus", p.Plus(q), sum(u[0], v[0]), sum(u[1], v[1]))
		same(t, "Minus", p.Minus(q), less(u[0], v[0]), less(u[1], v[1]))
		if got, _ := exact.Write(Dot(p, q).Fraction()); got != api.Rat(sum(times(u[0], v[0]), times(u[1], v[1])).RatString()) {
			t.Errorf("Dot of %v and %v: got %v", u, v, got)
		}
		x, y, w := p.Whole()
		same(t, "Whole", Place{x: x, y: y, w: w}, u[0], u[1])
		if w.Sign() != 1 {
			t.Errorf("Whole of %v is divided by %v", u, w)
		}
		n := r.Intn(9) - 4
		same(t, "Times", p.Times(n), times(u[0], big.NewRat(int64(n), 1)), times(u[1], big.NewRat(int64(n), 1)))
		along, a := randomPoint(r)
		across, b := randomPoint(r)
		by, c := randomPoint(r)
		moved := func(i int) *big.Rat { return sum(sum(times(u[0], a[i]), times(u[1], b[i])), c[i]) }
		same(t, "Moved", p.Moved(along, across, by), moved(0), moved(1))
		same(t, "Part", Part(along, 4), times(a[0], big.NewRat(1, 4)), times(a[1], big.NewRat(1, 4)))
		square := func(u, v [2]*big.Rat) *big.Rat {
			x, y := less(u[0], v[0]), less(u[1], v[1])
			return sum(times(x, x), times(y, y))
		}
		wanted := square(u, v)
		if got, _ := exact.Write(Distance(p, q).Fraction()); got != api.Rat(wanted.RatString()) {
			t.Errorf("Distance of %v and %v: got %v, want %v", u, v, got, wanted)
		}
		if got := Distance(p, q).Order(exact.Whole(n * n).Ratio()); got != wanted.Cmp(big.NewRat(int64(n*n), 1)) {
			t.Errorf("Distance of %v and %v, and %d: got the order %d", u, v, n, got)
		}
	}
}

func TestLines(t *testing.T) {
	r := rand.New(rand.NewSource(2))
	counts := map[int]int{}
	for range 2000 {
		from, a := randomPoint(r)
		to, b := randomPoint(r)
		p, u := randomPlace(t, r)
		share := big.NewRat(int64(r.Intn(25)-6), 12)
		s, _ := exact.Read(api.Rat(share.RatString()))
		at := Between(from, to, s)
		same(t, "Between", at, sum(a[0], times(share, less(b[0], a[0]))), sum(a[1], times(share, less(b[1], a[1]))))
		if got := at.Share(from, to).Fraction(); from != to && got.Order(s) != 0 {
			t.Errorf("Share from %v to %v at %v: got %v", from, to, share, got)
		}
		if from == to && at.Share(from, to).Sign() != 0 {
			t.Errorf("Share from %v to the same point: not 0", from)
		}
		if got := at.Side(from, to); got != 0 {
			t.Errorf("Side of a line from %v to %v at %v: got %d", from, to, share, got)
		}
		wanted := less(times(less(b[0], a[0]), less(u[1], a[1])), times(less(b[1], a[1]), less(u[0], a[0]))).Sign()
		counts[wanted]++
		if got := p.Side(from, to); got != wanted {
			t.Errorf("Side of %v of the line from %v to %v: got %d, want %d", u, from, to, got, wanted)
		}
	}
	if min(counts[-1], counts[1]) < 500 {
		t.Errorf("only few places on one side: %v", counts)
	}
}

func TestMirrors(t *testing.T) {
	r := rand.New(rand.NewSource(3))
	for range 1000 {
		from, a := randomPoint(r)
		to, b := randomPoint(r)
		p, u := randomPlace(t, r)
		if from == to {
			continue
		}
		x, y := less(b[0], a[0]), less(b[1], a[1])
		// Twice the way to the foot on the line, and back as far as from p.
		along := sum(times(x, less(u[0], a[0])), times(y, less(u[1], a[1])))
		share := new(big.Rat).Quo(sum(along, along), sum(times(x, x), times(y, y)))
		same(t, "Mirrored", p.Mirrored(from, to), less(sum(sum(a[0], a[0]), times(share, x)), u[0]), less(sum(sum(a[1], a[1]), times(share, y)), u[1]))
	}
}

func TestCrossings(t *testing.T) {
	r := rand.New(rand.NewSource(4))
	count := 0
	for range 2000 {
		from, a := randomPoint(r)
		to, b := randomPoint(r)
		p, u := randomPlace(t, r)
		q, v := randomPlace(t, r)
		beside := func(w [2]*big.Rat) *big.Rat {
			return less(times(less(b[0], a[0]), less(w[1], a[1])), times(less(b[1], a[1]), less(w[0], a[0])))
		}
		first, second := beside(u), beside(v)
		if first.Cmp(second) <= 0 {
			continue
		}
		count++
		share := new(big.Rat).Quo(first, less(first, second))
		same(t, "Crossing", Crossing(p, q, from, to), sum(u[0], times(share, less(v[0], u[0]))), sum(u[1], times(share, less(v[1], u[1]))))
	}
	if count < 500 {
		t.Errorf("only %d crossings", count)
	}
}

func TestGaps(t *testing.T) {
	r := rand.New(rand.NewSource(5))
	for range 1000 {
		p, u := randomPlace(t, r)
		q, v := randomPlace(t, r)
		_, w := randomPlace(t, r)
		if r.Intn(5) == 0 {
			q, v = p, u
		}
		at, e := Read(api.Place{X: api.Rat(w[0].RatString()), Y: api.Rat(w[1].RatString())})
		if e != api.OK {
			t.Fatalf("Read: the error %d", e)
		}
		x, y := less(v[0], u[0]), less(v[1], u[1])
		share := new(big.Rat)
		if length := sum(times(x, x), times(y, y)); length.Sign() != 0 {
			share.Quo(sum(times(x, less(w[0], u[0])), times(y, less(w[1], u[1]))), length)
		}
		if share.Sign() < 0 {
			share.SetInt64(0)
		}
		if share.Cmp(big.NewRat(1, 1)) > 0 {
			share.SetInt64(1)
		}
		x, y = less(w[0], sum(u[0], times(share, x))), less(w[1], sum(u[1], times(share, y)))
		wanted := sum(times(x, x), times(y, y))
		if got, _ := exact.Write(Gap(p, q, at).Fraction()); got != api.Rat(wanted.RatString()) {
			t.Errorf("Gap of %v, %v and %v: got %v, want %v", u, v, w, got, wanted)
		}
	}
}

func TestErrorsOfPlaces(t *testing.T) {
	nines := api.Rat(strings.Repeat("9", api.MaxDigits))
	for _, row := range []struct {
		p api.Place
		e api.Errno
	}{
		{api.Place{X: "1", Y: "-1/2"}, api.OK}, {api.Place{X: nines, Y: "1/" + nines}, api.OK}, {api.Place{}, api.ErrForm}, {api.Place{X: "x", Y: nines + "0"}, api.ErrForm},
		{api.Place{X: nines + "0", Y: "x"}, api.ErrLarge}, {api.Place{X: "1", Y: "2/4"}, api.ErrForm}, {api.Place{X: "1", Y: nines + "0"}, api.ErrLarge},
	} {
		p, e := Read(row.p)
		if e != row.e {
			t.Errorf("Read of %v: got the error %d, want %d", row.p, e, row.e)
		}
		if e != api.OK {
			continue
		}
		if got, e := p.Write(); got != row.p || e != api.OK {
			t.Errorf("Write of %v: got %v and the error %d", row.p, got, e)
		}
	}
	p, _ := Read(api.Place{X: nines, Y: "1"})
	q, _ := Read(api.Place{X: "1", Y: nines})
	for _, large := range []Place{p.Times(2), q.Times(2)} {
		if got, e := large.Write(); got != (api.Place{}) || e != api.ErrLarge {
			t.Errorf("Write of a large place: got %v and the error %d", got, e)
		}
	}
}
