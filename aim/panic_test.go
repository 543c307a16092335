package aim_test

import (
	"fmt"
	"math"
	"strings"
	"testing"

	"baulk/aim"
	"baulk/api"
	"baulk/table"
)

// Tests of P1: every function terminates and never panics, what stands beside an error is the zero value, and arguments
// and results share no memory.

// calls returns what all functions return for some arguments.
func calls(s aim.Shot, places []api.Place, n int, list []string) map[string][]any {
	p, q, d := places[0], places[1], places[2]
	results := map[string][]any{
		"Unit":        all(aim.Unit(n)),
		"Contact":     all(aim.Contact(n, p, d, q)),
		"Exit":        all(aim.Exit(s.Table, p, d)),
		"Ghost":       all(aim.Ghost(n, p, q)),
		"Cut":         all(aim.Cut(n, p, q, d)),
		"Clear":       all(aim.Clear(s.Table, s.Balls, [2]api.Place{p, q}, list)),
		"CheckShot":   all(aim.CheckShot(s)),
		"Open":        all(aim.Open(s)),
		"Hidden":      all(aim.Hidden(s)),
		"CheckHidden": all(aim.CheckHidden(s, list)),
		"Plan":        all(aim.Plan(s, list[0])),
		"CheckPlan":   all(aim.CheckPlan(s, list[0], d)),
		"Window":      all(aim.Window(s, list[0])),
		"Reachable":   all(aim.Reachable(s)),
		"Combination": all(aim.Combination(s, list[1], list[0])),
		"Carom":       all(aim.Carom(s, list[1])),
	}
	for what, f := range strokes() {
		results[what] = f(s.Table, s.Balls, s.Cue, d)
	}
	if name, e := aim.Why(s, n); e != api.ErrBlocked {
		results["Why"] = all(name, e)
	}
	return results
}

func TestArgumentsOfAnyForm(t *testing.T) {
	far := table.Table{Corners: []api.Point{{X: math.MinInt, Y: math.MaxInt}, {X: math.MaxInt, Y: math.MinInt}, {X: math.MaxInt, Y: math.MaxInt}}, Radius: math.MinInt}
	tests := []table.Table{{}, far, example(), field(), example(), polygon(1000, -10000, -10000, 10000, -10000, 10000, 10000, -10000, 10000), {Corners: make([]api.Point, 12), Radius: 1}, field(pocket("a", math.MinInt, "0", "1")), field(pocket("a", 1, "1/"+nines(600), "1")), field(pocket("a", 1, "", ""))}
	texts := []api.Rat{"", "0", "1/2", "1", "-1", "x", "1/0", "40", nines(600), "1/" + nines(600), "-" + nines(599) + "8/" + nines(600), large()}
	layouts := [][]table.Ball{nil, layout(), balls("1", "1", "40", "30", "20", "20", "9", "9"), balls("40", "1/"+nines(600), nines(599)+"8/"+nines(600), "50", "20", "20"), make([]table.Ball, 3), make([]table.Ball, 100000), {{Name: strings.Repeat("a", 100000)}}}
	numbers := []int{0, 1, 2, -1, 16, 1000, math.MinInt, math.MaxInt}
	lists := [][]string{{"", ""}, {"a", "b"}, {"c", "two"}, {"a", "b", "a"}, make([]string, 32), make([]string, 100000), names("b", 9, 23)}
	k := 0
	pick := func(n int) int {
		k = (k*31 + 17) % 10007
		return k % n
	}
	for _, on := range tests {
		for range 80 {
			var places []api.Place
			for range 3 {
				places = append(places, at(texts[pick(len(texts))], texts[pick(len(texts))]))
			}
			s := aim.Shot{Table: on, Balls: layouts[pick(len(layouts))], Cue: []string{"cue", "", "a"}[pick(3)], Ball: []string{"a", "one", "cue", "b"}[pick(4)]}
			for what, got := range calls(s, places, numbers[pick(len(numbers))], lists[pick(len(lists))]) {
				wantError(t, what, got, got[len(got)-1].(api.Errno))
			}
		}
	}
}

func TestNothingOnTheWayIsTooLarge(t *testing.T) {
	// The numbers have 600 digits, and what follows from them is in names and small numbers.
	s := planned(pockets(pocket("p", 1, "1/"+nines(600), nines(599)+"8/"+nines(600))), "20", "30", "50", "30", "60", "30")
	s.Balls[0].At.Y = api.Rat(sum(whole(30), over(whole(1), rational(t, nines(598)))).RatString())
	d := at(nines(600), "-1/"+nines(600))
	want(t, "Why", all(aim.Why(s, 16)), all("", api.OK))
	want(t, "Open", all(aim.Open(s)), all(numbers(9, 23), api.OK))
	want(t, "Plan", all(aim.Plan(s, "p")), all([]int{13, 14, 17, 18}, api.OK))
	want(t, "Combination", all(aim.Combination(s, "b", "p")), all([]int{15, 16}, api.OK))
	want(t, "Carom", all(aim.Carom(s, "b")), all([]int(nil), api.OK))
	want(t, "Pots", all(aim.Pots(s.Table, s.Balls[:2], "cue", d)), all("a", "p", api.OK))
	wantError(t, "Pots", all(aim.Pots(s.Table, s.Balls, "cue", d)), api.ErrBlocked)
	want(t, "CheckPlan", all(aim.CheckPlan(s, "p", d)), all(api.ErrProof))
	s.Balls = s.Balls[:2]
	want(t, "CheckPlan", all(aim.CheckPlan(s, "p", d)), all(api.OK))
}

func TestArgumentsAreKept(t *testing.T) {
	arguments := func() (aim.Shot, []api.Place, []string) {
		return planned(pockets(pocket("p", 1, "0", "1"), pocket("q", 2, "0", "1")), "20", "30", "50", "30", "60", "30", "23", "30"), []api.Place{at("1", "1"), at("50", "30"), at("3", "1")}, append([]string{"p", "b"}, names("c", 0, 29)[:30]...)
	}
	s, places, list := arguments()
	before := fmt.Sprint(arguments())
	first := fmt.Sprint(calls(s, places, 16, list))
	if after := fmt.Sprint(s, places, list); after != before {
		t.Errorf("the arguments %s become %s", before, after)
	}
	if again := fmt.Sprint(calls(s, places, 16, list)); first != again {
		t.Errorf("the results %s become %s", first, again)
	}
}

func TestResultsAreNewMemory(t *testing.T) {
	s := aimed("20", "30", "50", "30")
	for range 2 {
		open, _ := aim.Open(s)
		want(t, "Open", all(open), all(numbers(9, 23)))
		for i := range open[:cap(open)] {
			open[:cap(open)][i] = -1
		}
	}
	hidden := aimed("20", "30", "50", "30", "23", "30")
	for range 2 {
		list, _ := aim.Hidden(hidden)
		want(t, "Hidden", all(list), all(names("b", 9, 23)))
		clear(list)
	}
}
