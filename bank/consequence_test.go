package bank_test

import (
	"math/big"
	"math/rand"
	"slices"
	"testing"

	"baulk/api"
	"baulk/bank"
	"baulk/table"
)

// Tests of P3.6 (consequences), which hold between the results of several functions.

// found is a path that Banks has found.
type found struct {
	on   table.Table
	word []int
	path []api.Place
}

// somePaths returns the paths up to 3 rebounds of some tables.
func somePaths(t *testing.T, seed int64) []found {
	t.Helper()
	r := rand.New(rand.NewSource(seed))
	var list []found
	for range 40 {
		on := someTable(t, r)
		from, to := somePlace(t, r, on), somePlace(t, r, on)
		banks, e := bank.Banks(on, from, to, 3)
		wantError(t, "Banks", all(e), api.OK)
		for _, w := range banks {
			places, e := bank.Path(on, from, to, w)
			wantError(t, "Path", all(e), api.OK)
			list = append(list, found{on: on, word: w, path: places})
		}
	}
	if len(list) < 300 {
		t.Errorf("only %d paths", len(list))
	}
	return list
}

// leg returns the way from a place of a path to the next one.
func (f found) leg(t *testing.T, i int) vector {
	t.Helper()
	return minus(value(t, f.path[i+1]), value(t, f.path[i]))
}

// last returns the last place of the path.
func (f found) last() api.Place { return f.path[len(f.path)-1] }

// times returns the product of numbers.
func times(factors ...*big.Rat) *big.Rat {
	product := big.NewRat(1, 1)
	for _, x := range factors {
		product.Mul(product, x)
	}
	return product
}

func TestAnglesAreEqual(t *testing.T) {
	for _, f := range somePaths(t, 11) {
		if len(f.path) != len(f.word)+2 {
			t.Fatalf("%v has the path %v", f.word, f.path)
		}
		for i, edge := range f.word {
			_, along := edgeOf(f.on, edge)
			before, behind := f.leg(t, i), f.leg(t, i+1)
			if leftOf(f.on, edge, value(t, f.path[i+1])).Sign() != 0 || cross(along, before).Sign() != -1 || cross(along, behind).Sign() != 1 {
				t.Errorf("%v: the path %v does not rebound from %d", f.word, f.path, edge)
			}
			// The cosines have one sign and the same square.
			first, second := dot(along, before), dot(along, behind)
			if first.Sign() != second.Sign() || times(first, first, dot(behind, behind)).Cmp(times(second, second, dot(before, before))) != 0 {
				t.Errorf("%v: the path %v has different angles at %d", f.word, f.path, edge)
			}
		}
	}
}

func TestLegsAreAsLongAsTheWay(t *testing.T) {
	for _, f := range somePaths(t, 12) {
		want(t, "Length", all(bank.Length(f.on, f.path[0], f.last(), f.word)), all(squareOf(t, f.path), api.OK))
		image, e := bank.Image(f.on, f.last(), f.word)
		wantError(t, "Image", all(e), api.OK)
		way := minus(value(t, image), value(t, f.path[0]))
		want(t, "Length", all(bank.Length(f.on, f.path[0], f.last(), f.word)), all(dot(way, way).RatString(), api.OK))
	}
}

func TestPathsBack(t *testing.T) {
	for _, f := range somePaths(t, 13) {
		w, back := slices.Clone(f.word), slices.Clone(f.path)
		slices.Reverse(w)
		slices.Reverse(back)
		want(t, "Path back", all(bank.Path(f.on, f.last(), f.path[0], w)), all(back, api.OK))
	}
}

func TestWordsHavePathsOrReasons(t *testing.T) {
	r := rand.New(rand.NewSource(14))
	for range 40 {
		on := someTable(t, r)
		from, to := somePlace(t, r, on), somePlace(t, r, on)
		banks, _ := bank.Banks(on, from, to, 2)
		reasons, e := bank.Reasons(on, from, to, 2)
		wantError(t, "Reasons", all(e), api.OK)
		for _, reason := range reasons {
			wantError(t, "CheckReason", all(bank.CheckReason(on, from, to, reason)), api.OK)
			wantError(t, "Path", all(bank.Path(on, from, to, reason.Word)), api.ErrInfeasible)
			if slices.ContainsFunc(banks, func(w []int) bool { return slices.Equal(w, reason.Word) }) {
				t.Errorf("%v has a path, and a reason why it has none", reason.Word)
			}
		}
		edges := len(on.Corners)
		if n := len(banks) + len(reasons); n != 1+edges*edges {
			t.Errorf("%d words on a table with %d edges", n, edges)
		}
		e = api.OK
		if len(banks) > 0 {
			e = api.ErrShape
		}
		wantError(t, "CheckNone", all(bank.CheckNone(on, from, to, 2, reasons)), e)
	}
}

func TestBallsRollAlongPaths(t *testing.T) {
	for _, f := range somePaths(t, 15) {
		if len(f.word) == 0 {
			continue
		}
		hits, end, e := bank.Walk(f.on, f.path[0], text(f.leg(t, 0)), len(f.word))
		if len(hits) != len(f.word) || end != "" || e != api.OK {
			t.Fatalf("a ball that rolls along %v: %v, %q and the error %d", f.path, hits, end, e)
		}
		for i, h := range hits {
			want(t, "Walk", all(h.Edge, h.At), all(f.word[i], f.path[i+1]))
			next, direction := f.leg(t, i+1), value(t, h.Then)
			if cross(direction, next).Sign() != 0 || dot(direction, next).Sign() < 0 {
				t.Errorf("a ball that rolls along %v goes along %v behind the rebound %d", f.path, h.Then, i+1)
			}
		}
	}
}

func TestBallsTakenAwayBlockNothing(t *testing.T) {
	r := rand.New(rand.NewSource(16))
	blocked := 0
	for _, f := range somePaths(t, 16) {
		l := someBalls(t, r, f.on)
		var names []string
		for range l {
			name, leg, e := bank.Blocked(f.on, l, f.path, names)
			if e != api.OK {
				break
			}
			blocked++
			if slices.Contains(names, name) {
				t.Errorf("%s is taken away and blocks", name)
			}
			names = append(names, name)
			without := slices.DeleteFunc(slices.Clone(l), func(b table.Ball) bool { return slices.Contains(names, b.Name) })
			again, behind, e := bank.Blocked(f.on, without, f.path, nil)
			want(t, "Blocked without balls", all(bank.Blocked(f.on, l, f.path, names)), all(again, behind, e))
			if e == api.OK && behind < leg {
				t.Errorf("without %v the leg %d is blocked, before %d", names, behind, leg)
			}
		}
		names = names[:0]
		for _, b := range l {
			names = append(names, b.Name)
		}
		wantError(t, "Blocked by no ball", all(bank.Blocked(f.on, l, f.path, names)), api.ErrNone)
		want(t, "Clear without balls", all(bank.Clear(f.on, l, f.path[0], f.last(), 1, names)), all(bank.Banks(f.on, f.path[0], f.last(), 1)))
	}
	if blocked < 50 {
		t.Errorf("only %d paths are blocked", blocked)
	}
}

func TestVisitsAddUp(t *testing.T) {
	r := rand.New(rand.NewSource(17))
	count := 0
	for range 500 {
		on := polygon(0, 0, 977, 0, 977, 631, 0, 631)
		p, d := somePlace(t, r, on), at(api.Rat(big.NewRat(int64(r.Intn(999)-500), int64(1+r.Intn(99))).RatString()), "17")
		period, e := bank.Period(on, p, d)
		visits, second := bank.Visits(on, p, d)
		want(t, "Visits", all(second), all(e))
		if e != api.OK {
			continue
		}
		count++
		if sum := visits[0] + visits[1] + visits[2] + visits[3]; sum != period || visits[0] != visits[2] || visits[1] != visits[3] {
			t.Errorf("the visits %v in the period %d", visits, period)
		}
	}
	if count < 100 {
		t.Errorf("only %d periods", count)
	}
}
