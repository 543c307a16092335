package table_test

import (
	"math/big"
	"math/rand"
	"reflect"
	"slices"
	"testing"

	"baulk/api"
	"baulk/table"
)

// Tests of P2.5 (consequences), which hold between the results of several functions.

func TestSharesAreFound(t *testing.T) {
	r := rand.New(rand.NewSource(41))
	for range 200 {
		on := someTable(t, r)
		for edge := range on.Corners {
			s := share(r.Intn(13))
			p := done(t, "At", both(table.At(on, edge, s)))
			want(t, "On", both(table.On(on, p)), 0, api.OK)
			wanted := found{edge, s}
			switch {
			case s == "0" && edge > 0:
				wanted = found{edge - 1, "1"}
			case s == "1" && edge == len(on.Corners)-1:
				wanted = found{0, "0"}
			}
			want(t, "Edge", edgeOf(on, p), wanted, api.OK)
		}
	}
}

func TestPositionsAgainstLibrary(t *testing.T) {
	r := rand.New(rand.NewSource(42))
	counts := map[int]int{}
	for range 1000 {
		corners := someCorners(r)
		on := table.Table{Corners: corners, Radius: 1}
		p := someInside(t, r, corners)
		if r.Intn(2) == 0 {
			a, b := value(t, p.X), value(t, p.Y)
			p = place(text(sum(a, big.NewRat(int64(r.Intn(5)-2), 2))), text(sum(b, big.NewRat(int64(r.Intn(5)-2), 2))))
		}
		n := positionOf(t, corners, p)
		counts[n]++
		want(t, "On", both(table.On(on, p)), n, api.OK)
		f := edgeOf(on, p)
		if n != 0 {
			want(t, "Edge", f, found{}, api.ErrNone)
			continue
		}
		wantError(t, "Edge", f.err, api.OK)
		want(t, "At", both(table.At(on, f.value.edge, f.value.share)), p, api.OK)
		for i, a := range corners[:f.value.edge] {
			if sideOf(t, a, corners[i+1], p) == 0 {
				t.Errorf("Edge of %v on %v: %d, but it is on %d", p, corners, f.value.edge, i)
			}
		}
	}
	if min(counts[-1], counts[0], counts[1]) < 100 {
		t.Errorf("only few places of one kind: %v", counts)
	}
}

// someMove returns a move that keeps a table within its range.
func someMove(r *rand.Rand) table.Move {
	return move(r.Intn(2) == 0, r.Intn(21)-10, r.Intn(1001)-500, r.Intn(1001)-500)
}

func TestMovesKeep(t *testing.T) {
	r := rand.New(rand.NewSource(43))
	for range 100 {
		on := someTable(t, r)
		balls := someBalls(t, r, on)
		m := someMove(r)
		moved := done(t, "Changed", both(table.Changed(on, m)))
		carried := done(t, "Carried", both(table.Carried(on, balls, m)))
		wantError(t, "CheckLayout", table.CheckLayout(moved, carried), api.OK)
		want(t, "Area", both(table.Area(moved)), done(t, "Area", both(table.Area(on))), api.OK)
		want(t, "Nearest", nearestOf(moved, carried), nearestOf(on, balls).value, nearestOf(on, balls).err)
		wantList(t, "Touching", both(table.Touching(moved, carried)), done(t, "Touching", both(table.Touching(on, balls))), api.OK)
		for i, b := range balls {
			want(t, "On", both(table.On(moved, carried[i].At)), done(t, "On", both(table.On(on, b.At))), api.OK)
			for j, c := range balls {
				if squareBetween(t, b.At, c.At).Cmp(squareBetween(t, carried[i].At, carried[j].At)) != 0 {
					t.Errorf("the distance of %v and %v changes", b, c)
				}
			}
		}
		pocketsMove(t, on, moved, m)
	}
}

// pocketsMove reports a share of an edge that is in another pocket after a move.
func pocketsMove(t *testing.T, on, moved table.Table, m table.Move) {
	t.Helper()
	for edge := range on.Corners {
		for n := range 25 {
			s := text(big.NewRat(int64(n), 24))
			p := done(t, "At", both(table.At(on, edge, s)))
			other, u := edge, s
			if m.Mirror {
				other, u = len(on.Corners)-1-edge, text(big.NewRat(int64(24-n), 24))
			}
			q := done(t, "Carried", both(table.Carried(on, []table.Ball{{Name: "p", At: p}}, m)))
			want(t, "At", both(table.At(moved, other, u)), q[0].At, api.OK)
			name, e := table.Pocketed(on, edge, s)
			want(t, "Pocketed", both(table.Pocketed(moved, other, u)), name, e)
		}
	}
}

func TestMovesLeadBack(t *testing.T) {
	r := rand.New(rand.NewSource(44))
	for range 200 {
		on := full(someTable(t, r))
		balls := someBalls(t, r, on)
		for _, way := range [][]table.Move{
			{move(false, 1, 0, 0), move(false, 1, 0, 0), move(false, 1, 0, 0), move(false, 1, 0, 0)},
			{move(true, 0, 0, 0), move(true, 0, 0, 0)}, {move(false, 0, 3, -4), move(false, 0, -3, 4)}, {move(true, 1, 7, 2), move(true, 1, 2, 7)}, {move(false, 3, 0, 0), move(false, -3, 0, 0)},
		} {
			moved, carried := on, balls
			for _, m := range way {
				carried = done(t, "Carried", both(table.Carried(moved, carried, m)))
				moved = done(t, "Changed", both(table.Changed(moved, m)))
			}
			want(t, "Changed and back", both(full(moved), api.OK), on, api.OK)
			wantList(t, "Carried and back", both(carried, api.OK), balls, api.OK)
		}
	}
}

// fromCorner returns the same table from another corner on, with its lists in other orders.
func fromCorner(r *rand.Rand, on table.Table, k int) table.Table {
	n := len(on.Corners)
	other := full(on)
	other.Corners = slices.Concat(on.Corners[k:], on.Corners[:k])
	for i := range other.Pockets {
		other.Pockets[i].Edge = (other.Pockets[i].Edge + n - k) % n
	}
	r.Shuffle(len(other.Pockets), reflect.Swapper(other.Pockets))
	r.Shuffle(len(other.Spots), reflect.Swapper(other.Spots))
	return other
}

func TestOneNormalForm(t *testing.T) {
	r := rand.New(rand.NewSource(45))
	for range 200 {
		on := someTable(t, r)
		normal := done(t, "Normal", both(table.Normal(on)))
		want(t, "Area", both(table.Area(normal)), done(t, "Area", both(table.Area(on))), api.OK)
		for k := range on.Corners {
			other := fromCorner(r, on, k)
			want(t, "Normal", both(table.Normal(other)).full(), full(normal), api.OK)
			want(t, "Alike", both(table.Alike(on, other)), true, api.OK)
			want(t, "Alike", both(table.Alike(normal, other)), true, api.OK)
			if len(other.Pockets) > 0 {
				other.Pockets[0].Name = "other"
				want(t, "Alike", both(table.Alike(on, other)), false, api.OK)
			}
		}
	}
}

func TestRacksNeverOverlap(t *testing.T) {
	for radius := 1; radius <= 1000; radius = 3*radius + 1 {
		on := table.Table{Corners: points(-10000, -10000, 10000, -10000, 10000, 10000, -10000, 10000), Radius: radius, Spots: []table.Spot{spot("s", "0", "1/3")}}
		for n := range 6 * 4 * 2 {
			kind, rows := []string{"triangle", "diamond"}[n%2], n/8+1
			places, e := table.Rack(on, "s", kind, [2]int{rows, n / 2 % 4})
			if kind == "diamond" && rows%2 == 0 {
				wantError(t, "Rack", e, api.ErrRange)
				continue
			}
			var balls []table.Ball
			for i, p := range places {
				balls = append(balls, table.Ball{Name: "b" + string(rune('a'+i)), At: p})
			}
			wantError(t, "CheckLayout of a rack", table.CheckLayout(on, balls), api.OK)
			if i, e := table.Touching(on, balls); rows > 2 && len(i) == 0 {
				t.Errorf("no balls of a rack of %d rows touch, and the error %d", rows, e)
			}
		}
	}
}

// A ball that is spotted is at the first free place; the places are gone through one by one.
func TestSpottedIsFirstFree(t *testing.T) {
	r := rand.New(rand.NewSource(46))
	counts := map[api.Errno]int{}
	for range 400 {
		on := table.Table{Corners: someCorners(r), Radius: 1 + r.Intn(5)}
		balls := someBalls(t, r, on)
		at := someInside(t, r, on.Corners)
		if len(balls) > 0 && r.Intn(3) > 0 {
			at = balls[r.Intn(len(balls))].At
		}
		on.Spots = []table.Spot{{Name: "s", At: at}}
		step := place(text(big.NewRat(int64(r.Intn(11)-5), 60)), text(big.NewRat(int64(1+r.Intn(5)), 60)))
		p, e := table.Spotted(on, balls, "s", step)
		counts[e]++
		wanted := api.ErrLimit
		for range table.MaxTries {
			if done(t, "On", both(table.On(on, at))) < 0 {
				wanted = api.ErrNone
				break
			}
			if done(t, "Free", both(table.Free(on, balls, at))) {
				wanted = api.OK
				break
			}
			at = place(text(sum(value(t, at.X), value(t, step.X))), text(sum(value(t, at.Y), value(t, step.Y))))
		}
		if wanted != api.OK {
			at = api.Place{}
		}
		want(t, "Spotted", both(p, e), at, wanted)
	}
	if min(counts[api.OK], counts[api.ErrNone], counts[api.ErrLimit]) < 10 {
		t.Errorf("only few results of one kind: %v", counts)
	}
}

func TestTablesAreSumsOfTriangles(t *testing.T) {
	r := rand.New(rand.NewSource(47))
	for range 200 {
		c := someCorners(r)
		all := new(big.Rat)
		for i := 2; i < len(c); i++ {
			area := done(t, "Area", both(table.Area(table.Table{Corners: []api.Point{c[0], c[i-1], c[i]}, Radius: 1})))
			all = sum(all, value(t, area))
		}
		want(t, "Area", both(table.Area(table.Table{Corners: c, Radius: 1})), text(all), api.OK)
	}
}

func TestTextsAreReadAsPrinted(t *testing.T) {
	r := rand.New(rand.NewSource(48))
	for range 300 {
		on := full(someTable(t, r))
		balls := append([]table.Ball{}, someBalls(t, r, on)...)
		printed := done(t, "Print", both(table.Print(on)))
		got := parsed(printed)
		got.value.table = full(got.value.table)
		want(t, "Parse", got, tableParsed{table: on}, api.OK)
		want(t, "Print", both(table.Print(got.value.table)), printed, api.OK)
		text := done(t, "PrintBalls", both(table.PrintBalls(on, balls)))
		want(t, "ParseBalls", parsedBalls(on, text), ballsParsed{balls: balls}, api.OK)
	}
}
