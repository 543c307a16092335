package bank_test

import (
	"fmt"
	"math/big"
	"math/rand"
	"reflect"
	"slices"
	"strings"
	"testing"

	"baulk/api"
	"baulk/table"
)

// all makes a list of what a function returns.
func all(results ...any) []any { return results }

// want reports results that are not the wanted ones; nil and empty lists look the same.
func want(t *testing.T, what string, got, wanted []any) {
	t.Helper()
	if fmt.Sprint(got) != fmt.Sprint(wanted) {
		t.Errorf("%s: got %v, want %v", what, got, wanted)
	}
}

// wantError reports another error than the wanted one, or results beside an error.
func wantError(t *testing.T, what string, got []any, wanted api.Errno) {
	t.Helper()
	last := len(got) - 1
	if got[last] != wanted {
		t.Errorf("%s: got %v, want the error %d", what, got, wanted)
		return
	}
	for _, result := range got[:last] {
		v := reflect.ValueOf(result)
		isEmpty := v.IsZero() || v.Kind() == reflect.Slice && v.Len() == 0
		if wanted != api.OK && !isEmpty {
			t.Errorf("%s: %v beside the error %d", what, result, wanted)
		}
	}
}

// at returns the place with some coordinates, path the places of such pairs.
func at(x, y api.Rat) api.Place { return api.Place{X: x, Y: y} }

func path(coordinates ...api.Rat) []api.Place {
	var list []api.Place
	for pair := range slices.Chunk(coordinates, 2) {
		list = append(list, at(pair[0], pair[1]))
	}
	return list
}

// word returns a word, words a list of those whose edges are digits.
func word(edges ...int) []int { return edges }

func words(texts ...string) [][]int {
	var list [][]int
	for _, text := range texts {
		var w []int
		for _, digit := range text {
			w = append(w, int(digit-'0'))
		}
		list = append(list, w)
	}
	return list
}

// nines is the greatest number with n digits, large a number with one digit too many.
func nines(n int) api.Rat { return api.Rat(strings.Repeat("9", n)) }

func large() api.Rat { return "1" + api.Rat(strings.Repeat("0", api.MaxDigits)) }

// polygon returns a table with the radius 1 and some corners.
func polygon(coordinates ...int) table.Table {
	t := table.Table{Radius: 1}
	for pair := range slices.Chunk(coordinates, 2) {
		t.Corners = append(t.Corners, api.Point{X: pair[0], Y: pair[1]})
	}
	return t
}

// example returns the table of the chapter's examples, with some pockets.
func example(pockets ...table.Pocket) table.Table {
	t := polygon(0, 0, 8, 0, 8, 4, 0, 4)
	t.Pockets = pockets
	return t
}

// square returns a table with sides of the length 1.
func square() table.Table { return polygon(0, 0, 1, 0, 1, 1, 0, 1) }

// twelve returns a table with 12 edges.
func twelve() table.Table {
	return polygon(0, 0, 10, -6, 20, -10, 30, -12, 40, -10, 50, -6, 60, 0, 50, 6, 40, 10, 30, 12, 20, 10, 10, 6)
}

// pocket returns a pocket with a name that the edge and the share of its beginning give.
func pocket(edge int, from, to api.Rat) table.Pocket {
	name := fmt.Sprintf("p%d_%s", edge, strings.ReplaceAll(string(from), "/", "_"))
	return table.Pocket{Name: name, Edge: edge, From: from, To: to}
}

// walled returns the table of the examples without a rebound: the edge 0 has a pocket from 3 to 5, the others are
// nothing but pockets.
func walled() table.Table {
	return example(pocket(0, "3/8", "5/8"), pocket(1, "0", "1"), pocket(2, "0", "1"), pocket(3, "0", "1"))
}

// ball returns a ball, balls a list of those at some places, named a, b, c and so on.
func ball(name string, x, y api.Rat) table.Ball { return table.Ball{Name: name, At: at(x, y)} }

func balls(coordinates ...api.Rat) []table.Ball {
	var list []table.Ball
	for i, p := range path(coordinates...) {
		list = append(list, ball(string(rune('a'+i)), p.X, p.Y))
	}
	return list
}

// brokenTables returns tables with the error of each.
func brokenTables() map[api.Errno]table.Table {
	return map[api.Errno]table.Table{
		api.ErrShape:  {},
		api.ErrConvex: polygon(0, 0, 0, 4, 8, 4, 8, 0),
		api.ErrOrder:  example(table.Pocket{Name: "p", Edge: 0, From: "1", To: "0"}),
	}
}

// badPlaces returns places with the error that each has as a place of a path of the table of the examples with a pocket
// on the edge 0 from 2 to 4, and one at the corner 8, 4.
func badPlaces() map[api.Place]api.Errno {
	return map[api.Place]api.Errno{
		at("x", large()): api.ErrForm, at("1", "2/4"): api.ErrForm, at(large(), "x"): api.ErrLarge, at("9", ""): api.ErrForm,
		at("-1", "0"): api.ErrOutside, at("9", "0"): api.ErrOutside, at("3", "-1/"+nines(600)): api.ErrOutside, at("8", "5"): api.ErrOutside,
		at("2", "0"): api.ErrPocket, at("3", "0"): api.ErrPocket, at("4", "0"): api.ErrPocket, at("8", "4"): api.ErrPocket,
		at("0", "0"): api.ErrCorner, at("8", "0"): api.ErrCorner, at("0", "4"): api.ErrCorner,
	}
}

// pocketed returns the table of badPlaces.
func pocketed() table.Table { return example(pocket(0, "1/4", "1/2"), pocket(1, "1", "1")) }

// errorsOfPlaces reports a function of a table and a place of a path that does not have the errors of these, those of
// the table first. Good is a place that it takes.
func errorsOfPlaces(t *testing.T, what string, good api.Place, f func(on table.Table, p api.Place) []any) {
	t.Helper()
	for e, broken := range brokenTables() {
		wantError(t, what+" on a broken table", f(broken, at("", "")), e)
	}
	for p, e := range badPlaces() {
		wantError(t, fmt.Sprintf("%s at %.20v", what, p), f(pocketed(), p), e)
	}
	if got := f(pocketed(), good); got[len(got)-1] != api.OK {
		t.Errorf("%s at %v: got %v", what, good, got)
	}
}

// vector is a place in numbers of the library.
type vector [2]*big.Rat

// value returns a place in numbers of the library.
func value(t *testing.T, p api.Place) vector {
	t.Helper()
	x, first := new(big.Rat).SetString(string(p.X))
	y, second := new(big.Rat).SetString(string(p.Y))
	if !first || !second || text(vector{x, y}) != p {
		t.Fatalf("%v is no place", p)
	}
	return vector{x, y}
}

// corner returns a point in numbers of the library.
func corner(p api.Point) vector { return vector{big.NewRat(int64(p.X), 1), big.NewRat(int64(p.Y), 1)} }

// text returns the place with the numbers of a vector.
func text(v vector) api.Place { return at(api.Rat(v[0].RatString()), api.Rat(v[1].RatString())) }

// plus returns u and a multiple of v.
func plus(u vector, times *big.Rat, v vector) vector {
	return vector{new(big.Rat).Add(u[0], new(big.Rat).Mul(times, v[0])), new(big.Rat).Add(u[1], new(big.Rat).Mul(times, v[1]))}
}

// minus returns u without v.
func minus(u, v vector) vector { return plus(u, big.NewRat(-1, 1), v) }

// dot returns the scalar product, cross the vector product of two vectors.
func dot(u, v vector) *big.Rat {
	return new(big.Rat).Add(new(big.Rat).Mul(u[0], v[0]), new(big.Rat).Mul(u[1], v[1]))
}

func cross(u, v vector) *big.Rat {
	return new(big.Rat).Sub(new(big.Rat).Mul(u[0], v[1]), new(big.Rat).Mul(u[1], v[0]))
}

// edgeOf returns the beginning of an edge, and the way along it.
func edgeOf(on table.Table, edge int) (from, along vector) {
	from = corner(on.Corners[edge])
	return from, minus(corner(on.Corners[(edge+1)%len(on.Corners)]), from)
}

// leftOf returns a number with the sign 1, 0 or -1 for a place to the left of an edge, on its line, or to its right.
func leftOf(on table.Table, edge int, p vector) *big.Rat {
	from, along := edgeOf(on, edge)
	return cross(along, minus(p, from))
}

// shareOf returns the share of an edge at which the foot of a place on it is.
func shareOf(on table.Table, edge int, p vector) *big.Rat {
	from, along := edgeOf(on, edge)
	return new(big.Rat).Quo(dot(along, minus(p, from)), dot(along, along))
}

// obstacleAt returns why there is no rebound at a share of an edge, as the chapter says it.
func obstacleAt(on table.Table, edge int, share *big.Rat) string {
	if share.Sign() < 0 || share.Cmp(big.NewRat(1, 1)) > 0 {
		return "beside"
	}
	if _, e := table.Pocketed(on, edge, api.Rat(share.RatString())); e == api.OK {
		return "pocket"
	}
	if share.Sign() == 0 || share.Cmp(big.NewRat(1, 1)) == 0 {
		return "corner"
	}
	return ""
}

// tables returns tables of several forms without pockets; some have corners with large angles.
func tables() []table.Table {
	return []table.Table{
		example(), polygon(0, 0, 6, 0, 6, 6, 0, 6), polygon(0, 0, 12, 0, 5, 9), polygon(0, 0, 4, 0, 0, 3),
		polygon(0, 0, 6, 0, 8, 4, 4, 8, -1, 5), polygon(2, 0, 6, 0, 8, 3, 6, 6, 2, 6, 0, 3), polygon(0, 0, 8, 1, 10, 6, 2, 5),
		polygon(2, 0, 5, 0, 7, 2, 7, 5, 5, 7, 2, 7, 0, 5, 0, 2), twelve(),
	}
}

// someTable returns one of these tables after a move, with some pockets.
func someTable(t *testing.T, r *rand.Rand) table.Table {
	t.Helper()
	on := tables()[r.Intn(len(tables()))]
	for edge := range on.Corners {
		if from := r.Intn(26); from < 13 {
			to := min(12, from+r.Intn(5))
			on.Pockets = append(on.Pockets, table.Pocket{Name: fmt.Sprintf("p%d", edge), Edge: edge, From: twelfths(from), To: twelfths(to)})
		}
	}
	by := api.Point{X: r.Intn(9) - 4, Y: r.Intn(9) - 4}
	on, e := table.Changed(on, table.Move{Mirror: r.Intn(2) == 0, Quarters: r.Intn(4), By: by})
	if e != api.OK {
		t.Fatalf("Changed: the error %d", e)
	}
	return on
}

// twelfths returns a number of twelfths.
func twelfths(n int) api.Rat { return api.Rat(big.NewRat(int64(n), 12).RatString()) }

// somePlace returns a place of a path, one of three of them on an edge.
func somePlace(t *testing.T, r *rand.Rand, on table.Table) api.Place {
	t.Helper()
	if r.Intn(3) == 0 {
		edge, share := r.Intn(len(on.Corners)), twelfths(1+r.Intn(11))
		if _, e := table.Pocketed(on, edge, share); e == api.ErrNone {
			p, _ := table.At(on, edge, share)
			return p
		}
	}
	for {
		a, b := on.Corners[r.Intn(len(on.Corners))], on.Corners[r.Intn(len(on.Corners))]
		p := text(vector{big.NewRat(int64(a.X+b.X+r.Intn(9)-4), 2), big.NewRat(int64(a.Y+b.Y+r.Intn(9)-4), 2)})
		if n, _ := table.On(on, p); n == 1 {
			return p
		}
	}
}

// someDirection returns a vector that is not 0.
func someDirection(r *rand.Rand) api.Place {
	for {
		v := vector{big.NewRat(int64(r.Intn(13)-6), int64(1+r.Intn(2))), big.NewRat(int64(r.Intn(13)-6), int64(1+r.Intn(2)))}
		if v[0].Sign() != 0 || v[1].Sign() != 0 {
			return text(v)
		}
	}
}
