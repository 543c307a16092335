package aim_test

import (
	"fmt"
	"math"
	"math/rand"
	"slices"
	"testing"

	"baulk/aim"
	"baulk/api"
	"baulk/table"
)

// Tests of P4.3 (places).

// way returns the way from one place to another one.
func way(x, y, u, v api.Rat) [2]api.Place { return [2]api.Place{at(x, y), at(u, v)} }

// aimed returns the shot on a table from 0 0 to 100 60 at the second one of some balls.
func aimed(coordinates ...api.Rat) aim.Shot {
	return aim.Shot{Table: field(), Balls: balls(coordinates...), Cue: "cue", Ball: "a"}
}

func TestClear(t *testing.T) {
	straight := way("20", "30", "50", "30")
	for _, row := range []struct {
		balls  []table.Ball
		way    [2]api.Place
		except []string
		name   string
	}{
		{nil, straight, nil, ""}, {balls("30", "31"), straight, nil, "cue"}, {balls("30", "32"), straight, nil, ""}, {balls("30", "28"), straight, nil, ""}, {balls("30", "280001/10000"), straight, nil, "cue"}, {balls("30", "0"), straight, nil, ""},
		// Beside the ends the distance is that to them.
		{balls("18", "30"), straight, nil, ""}, {balls("181/10", "30"), straight, nil, "cue"}, {balls("52", "30"), straight, nil, ""}, {balls("259/5", "30"), straight, nil, "cue"}, {balls("19", "32"), straight, nil, ""}, {balls("51", "63/2"), straight, nil, "cue"},
		{balls("52", "32"), way("50", "30", "50", "30"), nil, ""}, {balls("51", "31"), way("50", "30", "50", "30"), nil, "cue"}, {balls("50", "32"), way("50", "30", "50", "30"), nil, ""},
		// The first one in the list is not the first one on the way; a ball at the start of the way blocks it, unless it is excepted.
		{balls("40", "30", "30", "30"), straight, nil, "cue"}, {balls("40", "33", "40", "30", "30", "30"), straight, nil, "a"}, {balls("40", "30", "30", "30"), straight, []string{"cue"}, "a"}, {balls("40", "30", "30", "30"), straight, []string{"cue", "a"}, ""}, {balls("40", "30", "30", "30"), straight, []string{"a", "a", "a"}, "cue"},
		{balls("20", "30", "50", "30"), straight, []string{"cue"}, "a"}, {balls("20", "30", "50", "30"), straight, []string{"a", "cue"}, ""}, {balls("20", "30"), way("0", "0", "100", "60"), nil, ""}, {balls("20", "13"), way("0", "0", "100", "60"), nil, "cue"},
	} {
		what := fmt.Sprintf("Clear with %v along %v but for %v", row.balls, row.way, row.except)
		want(t, what, all(aim.Clear(field(), row.balls, row.way, row.except)), all(row.name, api.OK))
	}
}

func TestErrorsOfClear(t *testing.T) {
	l, bad, many := balls("20", "30"), [2]api.Place{at("x", ""), at("", "")}, make([]string, 25)
	for e, broken := range brokenTables() {
		wantError(t, "Clear on a broken table", all(aim.Clear(broken, make([]table.Ball, 25), bad, many)), e)
	}
	for _, row := range []struct {
		balls  []table.Ball
		way    [2]api.Place
		except []string
		e      api.Errno
	}{
		{make([]table.Ball, 25), bad, many, api.ErrMany}, {balls("20", "30", "21", "30"), bad, many, api.ErrOverlap}, {l, bad, many, api.ErrForm}, {l, way("101", "30", "x", "y"), many, api.ErrOutside}, {l, way("1", "2/2", "101", "30"), many, api.ErrForm}, {l, way("1", large(), "101", "30"), many, api.ErrLarge},
		{l, way("1", "1", "x", "30"), many, api.ErrForm}, {l, way("1", "1", "101", "30"), many, api.ErrOutside}, {l, way("1", "1", "1", "-1/"+nines(600)), many, api.ErrOutside}, {l, way("1", "1", "2", "2"), many, api.ErrMany},
		{l, way("1", "1", "2", "2"), []string{"cue", "a"}, api.ErrUnknown}, {l, way("1", "1", "2", "2"), many[:24], api.ErrUnknown}, {nil, way("1", "1", "2", "2"), []string{"cue"}, api.ErrUnknown}, {l, way("1", "1", "2", "2"), slices.Repeat([]string{"cue"}, 24), api.OK}, {l, way("1", "1", "2", "2"), slices.Repeat([]string{"cue"}, 25), api.ErrMany},
	} {
		wantError(t, fmt.Sprintf("Clear along %.40v", row.way), all(aim.Clear(field(), row.balls, row.way, row.except)), row.e)
	}
}

// errorsOfShots reports a function that does not have the errors of shots before all others.
func errorsOfShots(t *testing.T, what string, f func(s aim.Shot) []any) {
	t.Helper()
	for e, broken := range brokenTables() {
		wantError(t, what+" on a broken table", f(aim.Shot{Table: broken, Balls: make([]table.Ball, 25)}), e)
	}
	for _, row := range []struct {
		balls     []table.Ball
		cue, ball string
		e         api.Errno
	}{
		{make([]table.Ball, 25), "", "", api.ErrMany}, {layout(ball("one", "1", "1")), "", "", api.ErrTwice}, {layout(ball("1", "1", "1")), "", "", api.ErrName}, {layout(ball("three", "x", "1")), "", "", api.ErrForm}, {layout(ball("three", "-1", "1")), "", "", api.ErrOutside}, {layout(ball("three", "500", "501")), "", "", api.ErrOverlap},
		{layout(), "", "one", api.ErrUnknown}, {layout(), "cue", "", api.ErrUnknown}, {layout(), "three", "three", api.ErrUnknown}, {layout(), "cue", "One", api.ErrUnknown}, {nil, "cue", "one", api.ErrUnknown}, {layout(), "cue", "cue", api.ErrTwice}, {layout(), "two", "two", api.ErrTwice},
	} {
		wantError(t, what, f(aim.Shot{Table: example(), Balls: row.balls, Cue: row.cue, Ball: row.ball}), row.e)
	}
}

func TestCheckShot(t *testing.T) {
	errorsOfShots(t, "CheckShot", func(s aim.Shot) []any { return all(aim.CheckShot(s)) })
	errorsOfShots(t, "Why", func(s aim.Shot) []any { return all(aim.Why(s, -1)) })
	errorsOfShots(t, "Open", func(s aim.Shot) []any { return all(aim.Open(s)) })
	errorsOfShots(t, "Hidden", func(s aim.Shot) []any { return all(aim.Hidden(s)) })
	errorsOfShots(t, "CheckHidden", func(s aim.Shot) []any { return all(aim.CheckHidden(s, nil)) })
	want(t, "CheckShot", all(aim.CheckShot(shot("one"))), all(api.OK))
	want(t, "CheckShot", all(aim.CheckShot(aim.Shot{Table: example(), Balls: layout(), Cue: "two", Ball: "cue"})), all(api.OK))
}

func TestWhy(t *testing.T) {
	for _, row := range []struct {
		shot aim.Shot
		n    int
		name string
		e    api.Errno
	}{
		{aimed("20", "30", "50", "30"), 16, "", api.OK}, {aimed("20", "30", "50", "30"), 9, "", api.OK}, {aimed("20", "30", "50", "30"), 23, "", api.OK}, {aimed("20", "30", "50", "30"), 8, "", api.ErrRule}, {aimed("20", "30", "50", "30"), 24, "", api.ErrRule}, {aimed("20", "30", "50", "30"), 0, "", api.ErrRule},
		// A place on an edge is not inside.
		{aimed("20", "1", "50", "8/5"), 20, "", api.ErrOutside}, {aimed("20", "1", "50", "80001/50000"), 20, "", api.OK}, {aimed("20", "1", "50", "79999/50000"), 20, "", api.ErrOutside}, {aimed("20", "30", "2", "30"), 16, "", api.ErrOutside}, {aimed("50", "30", "1", "1"), 20, "", api.ErrOutside}, {aimed("50", "50", "98", "58"), 4, "", api.ErrRule},
		// The reasons are asked for in their order.
		{aimed("50", "30", "50", "1"), 24, "", api.ErrOutside}, {aimed("20", "1", "50", "8/5", "30", "1"), 20, "", api.ErrOutside}, {aimed("50", "30", "50", "1", "50", "20"), 24, "", api.ErrOutside}, {aimed("20", "30", "50", "30", "30", "30"), 0, "", api.ErrRule}, {aimed("20", "30", "50", "30", "30", "30"), 16, "b", api.ErrBlocked},
		// A right angle at the place, one that is a little less, and a cue ball that is at the place.
		{aimed("20", "30", "50", "32"), 24, "", api.ErrRule}, {aimed("20", "2999999/100000", "50", "32"), 24, "", api.OK}, {aimed("20", "3000001/100000", "50", "32"), 24, "", api.ErrRule}, {aimed("48", "30", "50", "30"), 16, "", api.ErrRule}, {aimed("48", "30", "50", "30"), 15, "", api.ErrRule}, {aimed("4799999/100000", "30", "50", "30"), 16, "", api.OK},
		// Balls that just do not block, and the first one in the list of those that do.
		{aimed("20", "30", "50", "30", "30", "32", "40", "28"), 16, "", api.OK}, {aimed("20", "30", "50", "30", "48", "32"), 16, "", api.OK}, {aimed("20", "30", "50", "30", "48", "319999/10000"), 16, "b", api.ErrBlocked}, {aimed("20", "30", "50", "30", "18", "30"), 16, "", api.OK}, {aimed("20", "30", "50", "30", "52", "30"), 16, "", api.OK},
		{aimed("20", "30", "50", "30", "40", "30", "30", "30"), 16, "b", api.ErrBlocked}, {aimed("20", "30", "50", "30", "40", "40", "40", "30", "30", "30"), 16, "c", api.ErrBlocked},
		{shot("one", ball("three", "700", "500")), 16, "three", api.ErrBlocked}, {shot("one", ball("three", "700", "500")), 9, "three", api.ErrBlocked}, {shot("one", ball("three", "700", "500")), 8, "", api.ErrRule}, {shot("two"), 18, "", api.OK},
	} {
		what := fmt.Sprintf("Why of %d with %v", row.n, row.shot.Balls)
		want(t, what, all(aim.Why(row.shot, row.n)), all(row.name, row.e))
	}
	for _, n := range []int{-1, 32, math.MinInt, math.MaxInt} {
		wantError(t, fmt.Sprint("Why of ", n), all(aim.Why(shot("one"), n)), api.ErrUnknown)
	}
}

// numbers returns the numbers from one to another one.
func numbers(from, to int) []int {
	var list []int
	for n := from; n <= to; n++ {
		list = append(list, n)
	}
	return list
}

// names returns 32 names: those of one ball from one number to another one, and empty ones.
func names(name string, from, to int) []string {
	list := make([]string, aim.Units)
	for n := from; n <= to; n++ {
		list[n] = name
	}
	return list
}

func TestOpen(t *testing.T) {
	for _, row := range []struct {
		shot aim.Shot
		open []int
	}{
		{shot("one"), numbers(9, 23)}, {aimed("20", "30", "50", "30"), numbers(9, 23)}, {aimed("20", "30", "50", "30", "48", "32"), numbers(16, 23)}, {aimed("48", "30", "50", "30"), nil}, {aimed("20", "30", "50", "30", "23", "30"), nil}, {aimed("20", "30", "100", "30"), numbers(9, 23)}, {aimed("20", "30", "0", "30"), append([]int{0}, append(numbers(1, 7), numbers(25, 31)...)...)},
		{aimed("30", "30", "0", "0"), numbers(1, 7)}, {aimed("0", "30", "2", "30", "4", "30"), nil},
	} {
		want(t, fmt.Sprintf("Open with %v", row.shot.Balls), all(aim.Open(row.shot)), all(row.open, api.OK))
	}
}

func TestHidden(t *testing.T) {
	for _, row := range []struct {
		shot  aim.Shot
		names []string
	}{
		{aimed("20", "30", "50", "30", "23", "30"), names("b", 9, 23)}, {aimed("20", "30", "50", "30", "26", "30", "23", "30"), names("b", 9, 23)}, {aimed("20", "30", "50", "30", "23", "40", "23", "30"), names("c", 9, 23)}, {aimed("48", "30", "50", "30"), names("", 0, 0)}, {aimed("98", "60", "100", "60", "50", "50"), names("", 0, 0)},
	} {
		what := fmt.Sprintf("Hidden with %v", row.shot.Balls)
		want(t, what, all(aim.Hidden(row.shot)), all(row.names, api.OK))
		want(t, "CheckHidden instead of "+what, all(aim.CheckHidden(row.shot, row.names)), all(api.OK))
	}
	wantError(t, "Hidden", all(aim.Hidden(shot("two"))), api.ErrNone)
	wantError(t, "Hidden", all(aim.Hidden(aimed("20", "30", "50", "30", "48", "32"))), api.ErrNone)
}

func TestCheckHidden(t *testing.T) {
	s := aimed("20", "30", "50", "30", "23", "30", "26", "30", "30", "40") // b and c block, d does not
	changed := func(n int, name string, more ...string) []string {
		l := names("b", 9, 23)
		l[n] = name
		copy(l[n+1:], more)
		return l
	}
	for _, row := range []struct {
		names []string
		e     api.Errno
	}{
		{nil, api.ErrShape}, {names("b", 9, 23)[:31], api.ErrShape}, {append(names("b", 9, 23), ""), api.ErrShape}, {make([]string, 100000), api.ErrShape},
		{names("b", 9, 23), api.OK}, {names("c", 9, 23), api.OK}, {changed(16, "c"), api.OK}, {changed(16, ""), api.ErrProof}, {names("", 0, 0), api.ErrProof}, {changed(23, ""), api.ErrProof},
		{changed(16, "x"), api.ErrUnknown}, {changed(0, "x"), api.ErrUnknown}, {changed(31, "B"), api.ErrUnknown}, {changed(16, "cue"), api.ErrProof}, {changed(16, "a"), api.ErrProof}, {changed(16, "d"), api.ErrProof}, {changed(8, "b"), api.ErrProof}, {changed(0, "c"), api.ErrProof}, {changed(31, "a"), api.ErrProof},
		// The first name with an error counts.
		{changed(10, "x", ""), api.ErrUnknown}, {changed(10, "", "x"), api.ErrProof}, {changed(8, "b", "x"), api.ErrProof}, {changed(8, "", "x"), api.ErrUnknown},
	} {
		want(t, fmt.Sprintf("CheckHidden of %.200q", row.names), all(aim.CheckHidden(s, row.names)), all(row.e))
	}
	// A ball that blocks proves nothing where the place is outside, or the angle is none.
	outside := aimed("20", "1", "50", "8/5", "23", "1")
	hidden, e := aim.Hidden(outside)
	want(t, "Hidden", all(hidden[19], hidden[20], hidden[21], e), all("b", "", "", api.OK))
	hidden[20] = "b"
	want(t, "CheckHidden", all(aim.CheckHidden(outside, hidden)), all(api.ErrProof))
	want(t, "CheckHidden of an open one", all(aim.CheckHidden(aimed("20", "30", "50", "30"), names("", 0, 0))), all(api.ErrProof))
	want(t, "CheckHidden of an open one", all(aim.CheckHidden(aimed("20", "30", "50", "30", "23", "40"), names("b", 9, 23))), all(api.ErrProof))
	// A ball need not be the first one that blocks.
	partly := aimed("20", "30", "50", "30", "48", "32")
	want(t, "CheckHidden of an open one", all(aim.CheckHidden(partly, names("b", 9, 23))), all(api.ErrProof))
}

// someShot returns a shot of the first two balls of a layout.
func someShot(t *testing.T, r *rand.Rand) aim.Shot {
	t.Helper()
	on := someTable(t, r)
	l := someLayout(t, r, on)
	return aim.Shot{Table: on, Balls: l, Cue: l[0].Name, Ball: l[1].Name}
}

func TestPlacesAgainstLibrary(t *testing.T) {
	r := rand.New(rand.NewSource(5))
	counts := map[api.Errno]int{}
	hidden := 0
	for range 300 {
		s := someShot(t, r)
		what := fmt.Sprintf("%v of %v", s, s.Table)
		var open []int
		var blockers []string
		for n := range aim.Units {
			name, e := whyOf(t, s, n)
			want(t, fmt.Sprintf("Why of %d for %s", n, what), all(aim.Why(s, n)), all(name, e))
			counts[e]++
			if e == api.OK {
				open = append(open, n)
			}
			blockers = append(blockers, name)
		}
		want(t, "Open for "+what, all(aim.Open(s)), all(open, api.OK))
		if len(open) > 0 {
			wantError(t, "Hidden for "+what, all(aim.Hidden(s)), api.ErrNone)
			want(t, "CheckHidden for "+what, all(aim.CheckHidden(s, blockers)), all(api.ErrProof))
			continue
		}
		hidden++
		want(t, "Hidden for "+what, all(aim.Hidden(s)), all(blockers, api.OK))
		want(t, "CheckHidden for "+what, all(aim.CheckHidden(s, blockers)), all(api.OK))
	}
	if min(counts[api.OK], counts[api.ErrOutside], counts[api.ErrRule], counts[api.ErrBlocked]) < 300 || hidden < 50 {
		t.Errorf("only few places of one kind: %v, %d hidden", counts, hidden)
	}
}
