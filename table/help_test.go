package table_test

import (
	"math/big"
	"math/rand"
	"reflect"
	"slices"
	"strings"
	"testing"

	"baulk/api"
	"baulk/table"
)

// pair is a result with its error.
type pair[T any] struct {
	value T
	err   api.Errno
}

// both makes a pair of what a function returns.
func both[T any](value T, err api.Errno) pair[T] { return pair[T]{value, err} }

// want reports a result or an error that is not the wanted one; the lists in it have elements, or are nil.
func want[T any](t *testing.T, what string, got pair[T], value T, err api.Errno) {
	t.Helper()
	if !reflect.DeepEqual(got.value, value) || got.err != err {
		t.Errorf("%s: got %v and the error %d, want %v and %d", what, got.value, got.err, value, err)
	}
}

// wantList is want for lists; empty ones are equal.
func wantList[T comparable](t *testing.T, what string, got pair[[]T], value []T, err api.Errno) {
	t.Helper()
	if !slices.Equal(got.value, value) || got.err != err {
		t.Errorf("%s: got %v and the error %d, want %v and %d", what, got.value, got.err, value, err)
	}
}

// wantError reports an error that is not the wanted one.
func wantError(t *testing.T, what string, got, wanted api.Errno) {
	t.Helper()
	if got != wanted {
		t.Errorf("%s: got the error %d, want %d", what, got, wanted)
	}
}

// done returns a result that has no error.
func done[T any](t *testing.T, what string, got pair[T]) T {
	t.Helper()
	wantError(t, what, got.err, api.OK)
	return got.value
}

// full returns a table whose lists are empty instead of nil, so that tables can be compared.
func full(t table.Table) table.Table {
	t.Corners = append([]api.Point{}, t.Corners...)
	t.Pockets = append([]table.Pocket{}, t.Pockets...)
	t.Spots = append([]table.Spot{}, t.Spots...)
	return t
}

// nines is the greatest number with n digits, ten 10 to the power of n, large a number with one digit too many.
func nines(n int) api.Rat { return api.Rat(strings.Repeat("9", n)) }

func ten(n int) api.Rat { return api.Rat("1" + strings.Repeat("0", n)) }

func large() api.Rat { return ten(api.MaxDigits) }

func place(x, y api.Rat) api.Place { return api.Place{X: x, Y: y} }

func ball(name string, x, y api.Rat) table.Ball { return table.Ball{Name: name, At: place(x, y)} }

func spot(name string, x, y api.Rat) table.Spot { return table.Spot{Name: name, At: place(x, y)} }

func pocket(name string, edge int, from, to api.Rat) table.Pocket {
	return table.Pocket{Name: name, Edge: edge, From: from, To: to}
}

// points returns the points with some coordinates.
func points(coordinates ...int) []api.Point {
	var list []api.Point
	for i := 0; i < len(coordinates); i += 2 {
		list = append(list, api.Point{X: coordinates[i], Y: coordinates[i+1]})
	}
	return list
}

// example returns the table of the chapter's examples, examples its layout.
func example() table.Table {
	return table.Table{
		Corners: points(0, 0, 2000, 0, 2000, 1000, 0, 1000),
		Radius:  30,
		Pockets: []table.Pocket{pocket("a", 0, "0", "1/20"), pocket("b", 2, "19/20", "1")},
		Spots:   []table.Spot{spot("foot", "1500", "500"), spot("head", "500", "500")},
	}
}

func exampleBalls() []table.Ball {
	return []table.Ball{ball("cue", "500", "500"), ball("one", "1500", "500"), ball("two", "1560", "500")}
}

// changed returns the example table with a change.
func changed(change func(t *table.Table)) table.Table {
	t := example()
	change(&t)
	return t
}

// withCorners returns the example table with other corners, and without pockets and spots.
func withCorners(coordinates ...int) table.Table {
	return table.Table{Corners: points(coordinates...), Radius: 30}
}

// withPockets returns the example table with other pockets, withSpots that with other spots.
func withPockets(pockets ...table.Pocket) table.Table {
	return changed(func(t *table.Table) { t.Pockets = pockets })
}

func withSpots(spots ...table.Spot) table.Table {
	return changed(func(t *table.Table) { t.Spots = spots })
}

// brokenTables returns tables with the error of each.
func brokenTables() []pair[table.Table] {
	return []pair[table.Table]{
		both(table.Table{}, api.ErrShape),
		both(withCorners(0, 0, 0, 10, 10, 0), api.ErrConvex),
		both(withSpots(spot("foot", "2001", "0")), api.ErrOutside),
	}
}

// value returns the number of the library with a text.
func value(t *testing.T, a api.Rat) *big.Rat {
	t.Helper()
	x, ok := new(big.Rat).SetString(string(a))
	if !ok || text(x) != a {
		t.Fatalf("%q is no number", a)
	}
	return x
}

// text returns the text of a number of the library.
func text(x *big.Rat) api.Rat { return api.Rat(x.RatString()) }

// whole returns an integer as a number of the library; sum, less, times and cross compute with such numbers.
func whole(n int) *big.Rat { return big.NewRat(int64(n), 1) }

func sum(x, y *big.Rat) *big.Rat { return new(big.Rat).Add(x, y) }

func less(x, y *big.Rat) *big.Rat { return new(big.Rat).Sub(x, y) }

func times(x, y *big.Rat) *big.Rat { return new(big.Rat).Mul(x, y) }

// sideOf returns the sign of the cross product of the ways from a to b and from a to a place.
func sideOf(t *testing.T, a, b api.Point, p api.Place) int {
	x, y := less(value(t, p.X), whole(a.X)), less(value(t, p.Y), whole(a.Y))
	return less(times(whole(b.X-a.X), y), times(whole(b.Y-a.Y), x)).Sign()
}

// positionOf returns 1, 0 or -1 for a place inside, on an edge or outside, by its sides of all edges.
func positionOf(t *testing.T, corners []api.Point, p api.Place) int {
	least := 1
	for i, a := range corners {
		least = min(least, sideOf(t, a, corners[(i+1)%len(corners)], p))
	}
	return least
}

// squareBetween returns the square of the distance of two places.
func squareBetween(t *testing.T, p, q api.Place) *big.Rat {
	x, y := less(value(t, p.X), value(t, q.X)), less(value(t, p.Y), value(t, q.Y))
	return sum(times(x, x), times(y, y))
}

// reach returns the square of two radii.
func reach(radius int) *big.Rat { return whole(4 * radius * radius) }

// someTable returns a table with some corners, pockets and spots.
func someTable(t *testing.T, r *rand.Rand) table.Table {
	t.Helper()
	result := table.Table{Corners: someCorners(r), Radius: 1 + r.Intn(60)}
	for i := range result.Corners {
		from, to := r.Intn(13), r.Intn(13)
		if r.Intn(2) == 0 {
			result.Pockets = append(result.Pockets, pocket("p"+string(rune('a'+i)), i, share(min(from, to)), share(max(from, to))))
		}
	}
	for i := range r.Intn(4) {
		at := someInside(t, r, result.Corners)
		result.Spots = append(result.Spots, spot("s"+string(rune('a'+i)), at.X, at.Y))
	}
	r.Shuffle(len(result.Pockets), reflect.Swapper(result.Pockets))
	r.Shuffle(len(result.Spots), reflect.Swapper(result.Spots))
	wantError(t, "CheckTable", table.CheckTable(result), api.OK)
	return result
}

// share returns a number of twelfths.
func share(n int) api.Rat { return text(big.NewRat(int64(n), 12)) }

// someCorners returns the corners of a convex polygon, from any of them on.
func someCorners(r *rand.Rand) []api.Point {
	var all []api.Point
	size := []int{3, 20, 2000}[r.Intn(3)]
	for range 3 + r.Intn(20) {
		all = append(all, api.Point{X: r.Intn(2*size) - size, Y: r.Intn(2*size) - size})
	}
	corners := hull(all)
	if len(corners) < 3 || len(corners) > api.MaxCorners {
		return someCorners(r)
	}
	k := r.Intn(len(corners))
	return slices.Concat(corners[k:], corners[:k])
}

// hull returns the corners of the convex hull of points, counterclockwise, from the least one on.
func hull(all []api.Point) []api.Point {
	slices.SortFunc(all, func(a, b api.Point) int {
		if a.X != b.X {
			return a.X - b.X
		}
		return a.Y - b.Y
	})
	all = slices.Compact(all)
	half := func(list []api.Point) []api.Point {
		var chain []api.Point
		for _, c := range list {
			for n := len(chain); n >= 2; n = len(chain) {
				a, b := chain[n-2], chain[n-1]
				if (b.X-a.X)*(c.Y-a.Y)-(b.Y-a.Y)*(c.X-a.X) > 0 {
					break
				}
				chain = chain[:n-1]
			}
			chain = append(chain, c)
		}
		return chain[:len(chain)-1]
	}
	lower := half(all)
	slices.Reverse(all)
	return slices.Concat(lower, half(all))
}

// someInside returns a place inside or on an edge: a mean of the corners with some weights, many of which are 0.
func someInside(t *testing.T, r *rand.Rand, corners []api.Point) api.Place {
	x, y, all := 0, 0, 0
	for all == 0 {
		for _, c := range corners {
			w := max(0, r.Intn(12)-5)
			x, y, all = x+w*c.X, y+w*c.Y, all+w
		}
	}
	p := place(text(big.NewRat(int64(x), int64(all))), text(big.NewRat(int64(y), int64(all))))
	if positionOf(t, corners, p) < 0 {
		t.Fatalf("%v is outside of %v", p, corners)
	}
	return p
}

// someBalls returns some balls of a table.
func someBalls(t *testing.T, r *rand.Rand, on table.Table) []table.Ball {
	var balls []table.Ball
	for i := range r.Intn(10) {
		p := someInside(t, r, on.Corners)
		b := ball("b"+string(rune('a'+i)), p.X, p.Y)
		if !slices.ContainsFunc(balls, func(c table.Ball) bool {
			return squareBetween(t, b.At, c.At).Cmp(reach(on.Radius)) < 0
		}) {
			balls = append(balls, b)
		}
	}
	wantError(t, "CheckLayout", table.CheckLayout(on, balls), api.OK)
	return balls
}
