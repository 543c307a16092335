package bank_test

import (
	"fmt"
	"math"
	"slices"
	"strings"
	"testing"

	"baulk/api"
	"baulk/bank"
	"baulk/table"
)

// Tests of P1: every function terminates and never panics, what stands beside an error is the zero value, and arguments
// and results share no memory.

// calls returns what all functions return for some arguments.
func calls(on table.Table, l []table.Ball, places []api.Place, w []int, n int, names []string) map[string][]any {
	p, q, d := places[0], places[1], places[2]
	_, end, walked := bank.Walk(on, p, d, n)
	return map[string][]any{
		"CheckWord":   all(bank.CheckWord(on, w)),
		"Image":       all(bank.Image(on, p, w)),
		"Why":         all(bank.Why(on, p, q, w)),
		"Path":        all(bank.Path(on, p, q, w)),
		"Length":      all(bank.Length(on, p, q, w)),
		"Banks":       all(bank.Banks(on, p, q, n)),
		"Fewest":      all(bank.Fewest(on, p, q, n)),
		"Reasons":     all(bank.Reasons(on, p, q, n)),
		"CheckReason": all(bank.CheckReason(on, p, q, bank.Reason{Word: w, At: n, Why: "side"})),
		"CheckNone":   all(bank.CheckNone(on, p, q, n, []bank.Reason{{Word: w, At: n, Why: "corner"}})),
		"Gap":         all(bank.Gap(p, q, d)),
		"Blocked":     all(bank.Blocked(on, l, places, names)),
		"Clear":       all(bank.Clear(on, l, p, q, n, names)),
		"Step":        all(bank.Step(on, p, d)),
		"Walk":        all(end, walked),
		"Period":      all(bank.Period(on, p, d)),
		"Visits":      all(bank.Visits(on, p, d)),
		"Corner":      all(bank.Corner(on, p, d)),
	}
}

func TestArgumentsOfAnyForm(t *testing.T) {
	far := table.Table{Corners: []api.Point{{X: math.MinInt, Y: math.MaxInt}, {X: math.MaxInt, Y: math.MinInt}, {X: math.MaxInt, Y: math.MaxInt}}, Radius: math.MinInt}
	tests := []table.Table{{}, far, example(), walled(), twelve(), square(), {Corners: make([]api.Point, 12), Radius: 1}, example(table.Pocket{}), example(pocket(math.MinInt, "0", "1")), example(pocket(1, "1/"+nines(600), "1"))}
	texts := []api.Rat{"", "0", "1/2", "1", "-1", "x", "1/0", "4", nines(600), "1/" + nines(600), large()}
	layouts := [][]table.Ball{nil, balls("1", "1"), make([]table.Ball, 3), make([]table.Ball, 100000), {{Name: strings.Repeat("a", 100000)}}}
	numbers := []int{0, 1, 2, -1, 6, math.MinInt, math.MaxInt}
	sequences := [][]int{nil, {0}, {0, 1, 2}, {-1}, {math.MaxInt, math.MinInt}, make([]int, 100000), {2, 2}}
	k := 0
	pick := func(n int) int {
		k = (k*31 + 17) % 10007
		return k % n
	}
	for _, on := range tests {
		for range 60 {
			places := make([]api.Place, 3+pick(8))
			for i := range places {
				places[i] = at(texts[pick(len(texts))], texts[pick(len(texts))])
			}
			names := []string{"a", "", "a"}[:pick(4)]
			results := calls(on, layouts[pick(len(layouts))], places, sequences[pick(len(sequences))], numbers[pick(len(numbers))], names)
			for what, got := range results {
				wantError(t, what, got, got[len(got)-1].(api.Errno))
			}
		}
	}
}

func TestArgumentsAreKept(t *testing.T) {
	arguments := func() (table.Table, []table.Ball, []api.Place, []int, []string, []bank.Reason) {
		return walled(), balls("1", "1", "4", "3"), path("1", "0", "7", "0", "1", "1"), word(0, 1, 2), []string{"b"}, wallReasons()
	}
	on, l, places, w, names, reasons := arguments()
	before := fmt.Sprint(arguments())
	first := fmt.Sprint(calls(on, l, places, w, 1, names), bank.CheckNone(on, places[0], places[1], 1, reasons))
	if after := fmt.Sprint(on, l, places, w, names, reasons); after != before {
		t.Errorf("the arguments %s become %s", before, after)
	}
	again := fmt.Sprint(calls(on, l, places, w, 1, names), bank.CheckNone(on, places[0], places[1], 1, reasons))
	if first != again {
		t.Errorf("the results %s become %s", first, again)
	}
}

func TestResultsShareNoMemory(t *testing.T) {
	from, to := at("1", "1"), at("5", "1")
	banks, _ := bank.Banks(example(), from, to, 3)
	clear, _ := bank.Clear(example(), nil, from, to, 3, nil)
	reasons, _ := bank.Reasons(example(), from, to, 3)
	lists := slices.Concat(banks, clear)
	for _, r := range reasons {
		lists = append(lists, r.Word)
	}
	for i, list := range lists {
		for k := range list[:cap(list)] {
			list[:cap(list)][k] = 100 + i
		}
	}
	for i, list := range lists {
		if slices.ContainsFunc(list, func(edge int) bool { return edge != 100+i }) {
			t.Errorf("the list %d shares memory: %v", i, list)
		}
	}
}
