package aim_test

import (
	"fmt"
	"math/big"
	"math/rand"
	"reflect"
	"slices"
	"strings"
	"testing"

	"baulk/aim"
	"baulk/api"
	"baulk/table"
)

// all makes a list of what a function returns.
func all(results ...any) []any { return results }

// want reports results that are not the wanted ones; nil and empty lists look the same.
func want(t *testing.T, what string, got, wanted []any) {
	t.Helper()
	if fmt.Sprintf("%q", got) != fmt.Sprintf("%q", wanted) {
		t.Errorf("%s: got %s, want %s", what, short(got), short(wanted))
	}
}

// short returns the beginning of the text of some results.
func short(results []any) string { return fmt.Sprintf("%.1000s", fmt.Sprint(results...)) }

// wantError reports another error than the wanted one, or results beside an error.
func wantError(t *testing.T, what string, got []any, wanted api.Errno) {
	t.Helper()
	last := len(got) - 1
	if got[last] != wanted {
		t.Errorf("%s: got %s, want the error %d", what, short(got), wanted)
		return
	}
	for _, result := range got[:last] {
		v := reflect.ValueOf(result)
		isEmpty := v.IsZero() || v.Kind() == reflect.Slice && v.Len() == 0
		if wanted != api.OK && !isEmpty {
			t.Errorf("%s: %s beside the error %d", what, short(all(result)), wanted)
		}
	}
}

// at returns a place, surd a surd, spot a place of surds with one root.
func at(x, y api.Rat) api.Place { return api.Place{X: x, Y: y} }

func surd(a, b, d api.Rat) api.Surd { return api.Surd{A: a, B: b, D: d} }

func spot(a, b, c, e, d api.Rat) aim.Place { return aim.Place{X: surd(a, b, d), Y: surd(c, e, d)} }

// nines is the greatest number with n digits, ten 10 to the power of n, large a number with one digit too many.
func nines(n int) api.Rat { return api.Rat(strings.Repeat("9", n)) }

func ten(n int) api.Rat { return api.Rat("1" + strings.Repeat("0", n)) }

func large() api.Rat { return ten(api.MaxDigits) }

// ball returns a ball, balls a list of those at some places, named cue, a, b, c and so on.
func ball(name string, x, y api.Rat) table.Ball { return table.Ball{Name: name, At: at(x, y)} }

func balls(coordinates ...api.Rat) []table.Ball {
	var list []table.Ball
	name := "cue"
	for pair := range slices.Chunk(coordinates, 2) {
		list = append(list, ball(name, pair[0], pair[1]))
		name = string(rune('a' + len(list) - 1))
	}
	return list
}

// pocket returns a pocket.
func pocket(name string, edge int, from, to api.Rat) table.Pocket {
	return table.Pocket{Name: name, Edge: edge, From: from, To: to}
}

// polygon returns a table with a radius and some corners.
func polygon(radius int, coordinates ...int) table.Table {
	t := table.Table{Radius: radius}
	for pair := range slices.Chunk(coordinates, 2) {
		t.Corners = append(t.Corners, api.Point{X: pair[0], Y: pair[1]})
	}
	return t
}

// field returns a table from 0 0 to 100 60 with the radius 1 and some pockets.
func field(pockets ...table.Pocket) table.Table {
	t := polygon(1, 0, 0, 100, 0, 100, 60, 0, 60)
	t.Pockets = pockets
	return t
}

// example returns the table of the chapter's examples, layout its balls, shot the shot of its cue ball at another one.
func example() table.Table {
	t := polygon(30, 0, 0, 2000, 0, 2000, 1000, 0, 1000)
	t.Pockets = []table.Pocket{pocket("a", 0, "0", "1/20"), pocket("c", 1, "9/20", "11/20")}
	return t
}

func layout(more ...table.Ball) []table.Ball {
	return append([]table.Ball{ball("cue", "500", "500"), ball("one", "1000", "500"), ball("two", "1000", "700")}, more...)
}

func shot(name string, more ...table.Ball) aim.Shot {
	return aim.Shot{Table: example(), Balls: layout(more...), Cue: "cue", Ball: name}
}

// brokenTables returns tables with the error of each.
func brokenTables() map[api.Errno]table.Table {
	return map[api.Errno]table.Table{
		api.ErrShape:  {},
		api.ErrConvex: polygon(1, 0, 0, 0, 4, 8, 4, 8, 0),
		api.ErrOrder:  field(pocket("p", 0, "1", "0")),
	}
}

// badPlaces returns places with the error of each.
func badPlaces() map[api.Place]api.Errno {
	return map[api.Place]api.Errno{
		at("x", large()): api.ErrForm, at("1", "2/4"): api.ErrForm, at("9", ""): api.ErrForm, at(large(), "x"): api.ErrLarge, at("0", "1/"+large()+"1"): api.ErrLarge,
	}
}

// tables returns tables of several forms without pockets.
func tables() []table.Table {
	return []table.Table{
		polygon(1, 0, 0, 16, 0, 16, 8, 0, 8), polygon(1, 0, 0, 12, 0, 12, 12, 0, 12), polygon(1, 0, 0, 24, 0, 10, 18), polygon(2, 0, 0, 32, 0, 0, 24),
		polygon(1, 0, 0, 12, 0, 16, 8, 8, 16, -2, 10), polygon(1, 4, 0, 12, 0, 16, 6, 12, 12, 4, 12, 0, 6), polygon(2, 4, 0, 20, 0, 28, 8, 28, 20, 20, 28, 4, 28, -4, 20, -4, 8),
	}
}

// someTable returns one of these tables after a move, with some pockets.
func someTable(t *testing.T, r *rand.Rand) table.Table {
	t.Helper()
	on := tables()[r.Intn(len(tables()))]
	for edge := range on.Corners {
		if from := r.Intn(18); from < 13 {
			on.Pockets = append(on.Pockets, pocket(fmt.Sprintf("p%d", edge), edge, twelfths(from), twelfths(min(12, from+r.Intn(9)))))
		}
	}
	r.Shuffle(len(on.Pockets), reflect.Swapper(on.Pockets))
	on, e := table.Changed(on, table.Move{Mirror: r.Intn(2) == 0, Quarters: r.Intn(4), By: api.Point{X: r.Intn(9) - 4, Y: r.Intn(9) - 4}})
	wantError(t, "Changed", all(e), api.OK)
	return on
}

// twelfths returns a number of twelfths.
func twelfths(n int) api.Rat { return api.Rat(big.NewRat(int64(n), 12).RatString()) }

// someLayout returns some balls of a table, at least two, many of which touch or are at one distance from another one.
func someLayout(t *testing.T, r *rand.Rand, on table.Table) []table.Ball {
	t.Helper()
	var l []table.Ball
	for n := 2 + r.Intn(6); len(l) < n; {
		name := "cue"
		if len(l) > 0 {
			name = string(rune('a' + len(l) - 1))
		}
		p := somePlace(r, on)
		if len(l) > 0 && r.Intn(4) == 0 {
			p = beside(t, r, l[r.Intn(len(l))].At, 2*on.Radius)
		}
		if next := append(slices.Clone(l), table.Ball{Name: name, At: p}); table.CheckLayout(on, next) == api.OK {
			l = next
		} else if r.Intn(9) == 0 {
			n = max(2, n-1)
		}
	}
	r.Shuffle(len(l), reflect.Swapper(l))
	return l
}

// somePlace returns a place near a table, or on it.
func somePlace(r *rand.Rand, on table.Table) api.Place {
	a, b := on.Corners[r.Intn(len(on.Corners))], on.Corners[r.Intn(len(on.Corners))]
	return text(vector{big.NewRat(int64(a.X+b.X+r.Intn(17)-8), 2), big.NewRat(int64(a.Y+b.Y+r.Intn(17)-8), 2)})
}

// beside returns a place at a distance from another one.
func beside(t *testing.T, r *rand.Rand, p api.Place, distance int) api.Place {
	t.Helper()
	u, _ := aim.Unit(r.Intn(aim.Units))
	return text(plus(value(t, p), big.NewRat(int64(distance), 1), value(t, u)))
}

// someDirection returns a vector that is not 0, many of which lead a ball to another one, and some to a corner.
func someDirection(t *testing.T, r *rand.Rand, on table.Table, l []table.Ball, from api.Place) api.Place {
	t.Helper()
	d := vector{big.NewRat(int64(r.Intn(13)-6), int64(1+r.Intn(2))), big.NewRat(int64(r.Intn(13)-6), int64(1+r.Intn(2)))}
	switch to := value(t, l[r.Intn(len(l))].At); r.Intn(8) {
	case 0, 1:
	case 2:
		d = minus(corner(on.Corners[r.Intn(len(on.Corners))]), value(t, from))
	case 3:
		d = minus(to, value(t, from))
	default:
		d = minus(value(t, beside(t, r, text(to), 2*on.Radius)), value(t, from))
	}
	if d[0].Sign() == 0 && d[1].Sign() == 0 {
		return someDirection(t, r, on, l, from)
	}
	return text(plus(vector{whole(0), whole(0)}, big.NewRat(int64(1+r.Intn(3)), int64(1+r.Intn(3))), d))
}

// vector is a place in numbers of the library.
type vector [2]*big.Rat

// rational returns a number of the library with a text, whole one that is an integer.
func rational(t *testing.T, a api.Rat) *big.Rat {
	t.Helper()
	x, ok := new(big.Rat).SetString(string(a))
	if !ok || api.Rat(x.RatString()) != a {
		t.Fatalf("%q is no number", a)
	}
	return x
}

func whole(n int) *big.Rat { return big.NewRat(int64(n), 1) }

// value returns a place in numbers of the library, corner a point.
func value(t *testing.T, p api.Place) vector {
	t.Helper()
	return vector{rational(t, p.X), rational(t, p.Y)}
}

func corner(p api.Point) vector { return vector{whole(p.X), whole(p.Y)} }

// text returns the place with the numbers of a vector.
func text(v vector) api.Place { return at(api.Rat(v[0].RatString()), api.Rat(v[1].RatString())) }

// sum, less, times and over compute with numbers of the library.
func sum(x, y *big.Rat) *big.Rat { return new(big.Rat).Add(x, y) }

func less(x, y *big.Rat) *big.Rat { return new(big.Rat).Sub(x, y) }

func over(x, y *big.Rat) *big.Rat { return new(big.Rat).Quo(x, y) }

func times(factors ...*big.Rat) *big.Rat {
	product := whole(1)
	for _, x := range factors {
		product.Mul(product, x)
	}
	return product
}

// plus returns u and a multiple of v, minus u without v.
func plus(u vector, n *big.Rat, v vector) vector {
	return vector{sum(u[0], times(n, v[0])), sum(u[1], times(n, v[1]))}
}

func minus(u, v vector) vector { return plus(u, whole(-1), v) }

// dot returns the scalar product, cross the vector product of two vectors.
func dot(u, v vector) *big.Rat { return sum(times(u[0], v[0]), times(u[1], v[1])) }

func cross(u, v vector) *big.Rat { return less(times(u[0], v[1]), times(u[1], v[0])) }
