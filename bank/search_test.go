package bank_test

import (
	"math"
	"math/rand"
	"slices"
	"testing"

	"baulk/api"
	"baulk/bank"
	"baulk/table"
)

// Tests of P3.2 (banks).

func TestBanks(t *testing.T) {
	from, to := at("1", "1"), at("5", "1")
	oneWay := example(pocket(0, "0", "1"), pocket(2, "0", "1"))
	for _, row := range []struct {
		on       table.Table
		from, to api.Place
		n        int
		words    [][]int
	}{
		{example(), from, to, 0, words("")}, {example(), from, to, 1, words("", "0", "1", "2", "3")},
		{example(), from, to, 2, words("", "0", "1", "2", "3", "01", "02", "13", "20", "21", "30", "31", "32")},
		{oneWay, from, to, 2, words("", "1", "3", "13", "31")}, {oneWay, at("1", "2"), at("8", "2"), 3, words("", "3", "13", "313")},
		// From a place to itself: the ball meets an edge at right angles, or goes round.
		{example(), at("4", "2"), at("4", "2"), 2, words("", "0", "1", "2", "3", "02", "13", "20", "31")},
		{walled(), at("1", "0"), at("7", "0"), 4, nil}, {walled(), at("1", "0"), at("7", "1"), 4, words("")}, {walled(), at("1", "0"), at("2", "0"), 4, words("")},
		// The ways to the sides on the left and on the right lead to corners.
		{pocketed(), at("1", "0"), at("5", "0"), 1, words("2")},
	} {
		want(t, "Banks", all(bank.Banks(row.on, row.from, row.to, row.n)), all(row.words, api.OK))
		if row.words == nil {
			wantError(t, "Fewest", all(bank.Fewest(row.on, row.from, row.to, row.n)), api.ErrNone)
		} else {
			want(t, "Fewest", all(bank.Fewest(row.on, row.from, row.to, row.n)), all(row.words[0], api.OK))
		}
	}
}

// wallReasons returns the reasons for which there is no path with up to one rebound from one side of the pocket of the
// walled table to the other one.
func wallReasons() []bank.Reason {
	return []bank.Reason{{Word: nil, At: 0, Why: "pocket"}, {Word: word(0), At: 1, Why: "side"}, {Word: word(1), At: 1, Why: "pocket"}, {Word: word(2), At: 1, Why: "pocket"}, {Word: word(3), At: 1, Why: "pocket"}}
}

func TestReasons(t *testing.T) {
	from, to := at("1", "0"), at("7", "0")
	want(t, "Reasons", all(bank.Reasons(walled(), from, to, 1)), all(wallReasons(), api.OK))
	want(t, "Reasons", all(bank.Reasons(walled(), from, to, 0)), all(wallReasons()[:1], api.OK))
	want(t, "Reasons", all(bank.Reasons(walled(), from, at("7", "1"), 1)), all(wallReasons()[1:], api.OK))
	want(t, "Reasons", all(bank.Reasons(example(), at("1", "1"), at("5", "1"), 1)), all([]bank.Reason{}, api.OK))
}

func TestWordsOfSearches(t *testing.T) {
	corners := [][]int{
		{0, 0, 9, 0, 0, 9}, {0, 0, 8, 0, 8, 4, 0, 4}, {0, 0, 6, 0, 8, 4, 4, 8, -1, 5}, {2, 0, 6, 0, 8, 3, 6, 6, 2, 6, 0, 3}, {2, 0, 6, 0, 8, 3, 7, 5, 4, 7, 1, 5, 0, 3},
		{2, 0, 5, 0, 7, 2, 7, 5, 5, 7, 2, 7, 0, 5, 0, 2}, {2, 0, 5, 0, 7, 2, 8, 4, 7, 6, 5, 8, 2, 8, 0, 6, 0, 2},
	}
	tests := []table.Table{twelve()}
	greatest := map[int]int{3: 6, 4: 6, 5: 5, 6: 4, 7: 4, 8: 4, 9: 3, 12: 3}
	for _, c := range corners {
		tests = append(tests, polygon(c...))
	}
	for _, on := range tests {
		p := at("3", "3")
		if len(on.Corners) == 12 {
			p = at("30", "3")
		}
		edges := len(on.Corners)
		count, longest := 1, edges
		for n := range api.MaxBanks + 1 {
			if n > 0 {
				count, longest = count+longest, longest*(edges-1)
			}
			if n > greatest[edges] {
				wantError(t, "Banks", all(bank.Banks(on, p, p, n)), api.ErrLimit)
				continue
			}
			banks, e := bank.Banks(on, p, p, n)
			wantError(t, "Banks", all(e), api.OK)
			reasons, e := bank.Reasons(on, p, p, n)
			wantError(t, "Reasons", all(e), api.OK)
			list := slices.Clone(banks)
			for _, r := range reasons {
				list = append(list, r.Word)
			}
			byLength := func(a, b []int) int {
				if len(a) != len(b) {
					return len(a) - len(b)
				}
				return slices.Compare(a, b)
			}
			slices.SortFunc(list, byLength)
			if len(list) != count || len(slices.CompactFunc(list, slices.Equal)) != count || !slices.IsSortedFunc(banks, byLength) {
				t.Errorf("%d edges, up to %d rebounds: %d words, want %d in their order", edges, n, len(list), count)
			}
		}
	}
}

func TestErrorsOfSearches(t *testing.T) {
	good := at("5", "1")
	for what, f := range map[string]func(on table.Table, from, to api.Place, n int) []any{
		"Banks":   func(on table.Table, from, to api.Place, n int) []any { return all(bank.Banks(on, from, to, n)) },
		"Fewest":  func(on table.Table, from, to api.Place, n int) []any { return all(bank.Fewest(on, from, to, n)) },
		"Reasons": func(on table.Table, from, to api.Place, n int) []any { return all(bank.Reasons(on, from, to, n)) },
		"Clear": func(on table.Table, from, to api.Place, n int) []any {
			return all(bank.Clear(on, nil, from, to, n, nil))
		},
		"CheckNone": func(on table.Table, from, to api.Place, n int) []any {
			reasons, e := bank.Reasons(on, from, to, n)
			found := bank.CheckNone(on, from, to, n, append(reasons, make([]bank.Reason, 2)...))
			if e == api.OK && found == api.ErrShape {
				return all(api.OK)
			}
			return all(found)
		},
	} {
		errorsOfPlaces(t, what+" from", good, func(on table.Table, p api.Place) []any { return f(on, p, good, 0) })
		errorsOfPlaces(t, what+" to", good, func(on table.Table, p api.Place) []any { return f(on, good, p, 0) })
		for n, e := range map[int]api.Errno{-1: api.ErrRange, 7: api.ErrRange, math.MinInt: api.ErrRange, math.MaxInt: api.ErrRange, 0: api.OK} {
			wantError(t, what, f(example(), good, good, n), e)
		}
		wantError(t, what, f(example(), good, at("x", ""), -1), api.ErrForm)
		wantError(t, what, f(pocketed(), at("3", "0"), at("x", ""), -1), api.ErrPocket)
		wantError(t, what, f(twelve(), at("30", "1"), at("30", "1"), 4), api.ErrLimit)
		wantError(t, what, f(twelve(), at("30", "1"), at("30", "1"), 7), api.ErrRange)
		wantError(t, what, f(twelve(), at("30", "1"), at("0", "0"), 4), api.ErrCorner)
	}
}

func TestCheckReason(t *testing.T) {
	from, to := at("1", "1"), at("5", "1")
	for _, row := range []struct {
		r bank.Reason
		e api.Errno
	}{
		{bank.Reason{Word: word(1, 2), At: 1, Why: "beside"}, api.OK}, {bank.Reason{Word: word(1, 2), At: 1, Why: "side"}, api.ErrProof}, {bank.Reason{Word: word(1, 2), At: 2, Why: "beside"}, api.ErrProof},
		{bank.Reason{Word: word(1, 2), At: 0, Why: "beside"}, api.ErrProof}, {bank.Reason{Word: word(1, 2), At: -1, Why: "beside"}, api.ErrProof}, {bank.Reason{Word: word(1, 2), At: 1, Why: "corner"}, api.ErrProof},
		{bank.Reason{Word: word(1, 2), At: 1, Why: ""}, api.ErrKind}, {bank.Reason{Word: word(1, 2), At: 1, Why: "Beside"}, api.ErrKind}, {bank.Reason{Word: word(1, 2), At: 9, Why: "beside "}, api.ErrKind},
		// A word that has a path.
		{bank.Reason{Word: word(2), At: 1, Why: "side"}, api.ErrProof}, {bank.Reason{Word: word(2), At: 0, Why: "pocket"}, api.ErrProof}, {bank.Reason{Word: word(2), At: 0, Why: ""}, api.ErrKind},
		{bank.Reason{}, api.ErrKind}, {bank.Reason{Why: "pocket"}, api.ErrProof},
		// A word that is none.
		{bank.Reason{Word: word(4), At: 1, Why: "none"}, api.ErrUnknown}, {bank.Reason{Word: word(1, 1), At: 1, Why: "side"}, api.ErrTwice}, {bank.Reason{Word: make([]int, 7), At: 1, Why: "none"}, api.ErrMany},
	} {
		wantError(t, "CheckReason", all(bank.CheckReason(example(), from, to, row.r)), row.e)
	}
	good := at("5", "1")
	side := bank.Reason{Word: word(0, 1, 0), At: 1, Why: "side"}
	errorsOfPlaces(t, "CheckReason from", good, func(on table.Table, p api.Place) []any { return all(bank.CheckReason(on, p, good, side)) })
	errorsOfPlaces(t, "CheckReason to", good, func(on table.Table, p api.Place) []any { return all(bank.CheckReason(on, good, p, side)) })
	wantError(t, "CheckReason", all(bank.CheckReason(pocketed(), at("3", "0"), at("", ""), bank.Reason{Word: word(9)})), api.ErrPocket)
	wantError(t, "CheckReason", all(bank.CheckReason(pocketed(), good, at("0", "0"), bank.Reason{Word: word(9)})), api.ErrCorner)
	for _, w := range ways() {
		for _, why := range []string{"side", "beside", "pocket", "corner"} {
			for number := range 4 {
				e := api.ErrProof
				if number == w.at && why == w.why {
					e = api.OK
				}
				wantError(t, "CheckReason", all(bank.CheckReason(w.on, w.from, w.to, bank.Reason{Word: w.word, At: number, Why: why})), e)
			}
		}
	}
}

func TestCheckNone(t *testing.T) {
	from, to := at("1", "0"), at("7", "0")
	changed := func(i int, change func(r *bank.Reason)) []bank.Reason {
		l := wallReasons()
		change(&l[i])
		return l
	}
	for _, row := range []struct {
		n int
		l []bank.Reason
		e api.Errno
	}{
		{1, wallReasons(), api.OK}, {0, wallReasons()[:1], api.OK}, {1, wallReasons()[:4], api.ErrShape}, {0, wallReasons(), api.ErrShape}, {2, wallReasons(), api.ErrShape},
		{1, append(wallReasons(), bank.Reason{}), api.ErrShape}, {1, nil, api.ErrShape}, {0, nil, api.ErrShape}, {0, make([]bank.Reason, 1), api.ErrKind}, {1, make([]bank.Reason, 5), api.ErrKind},
		{1, changed(1, func(r *bank.Reason) { r.Word = word(1) }), api.ErrOrder}, {1, changed(4, func(r *bank.Reason) { r.Word = nil }), api.ErrOrder},
		{1, changed(2, func(r *bank.Reason) { r.Word = word(9) }), api.ErrOrder}, {1, changed(0, func(r *bank.Reason) { r.Word = make([]int, 9); r.Why = "" }), api.ErrOrder},
		{1, changed(4, func(r *bank.Reason) { r.Why = "none" }), api.ErrKind}, {1, changed(4, func(r *bank.Reason) { r.Why = "corner" }), api.ErrProof}, {1, changed(4, func(r *bank.Reason) { r.At = 0 }), api.ErrProof},
		// The first reason with an error counts.
		{1, slices.Concat(changed(0, func(r *bank.Reason) { r.At = 1 })[:4], make([]bank.Reason, 1)), api.ErrProof}, {1, slices.Concat(make([]bank.Reason, 1), wallReasons()[:4]), api.ErrKind},
		{1, slices.Concat(wallReasons()[:3], wallReasons()[4:], wallReasons()[3:4]), api.ErrOrder},
	} {
		wantError(t, "CheckNone", all(bank.CheckNone(walled(), from, to, row.n, row.l)), row.e)
	}
	// With a path there is no proof, whatever the reason for its word.
	for _, why := range []string{"side", "beside", "pocket", "corner"} {
		l := slices.Concat([]bank.Reason{{Why: why}}, wallReasons()[1:])
		wantError(t, "CheckNone with a path", all(bank.CheckNone(walled(), from, at("7", "1"), 1, l)), api.ErrProof)
	}
	reasons, _ := bank.Reasons(walled(), from, to, 6)
	wantError(t, "CheckNone of 1457 words", all(bank.CheckNone(walled(), from, to, 6, reasons)), api.OK)
	wantError(t, "CheckNone of too many words", all(bank.CheckNone(twelve(), at("30", "1"), at("30", "1"), 4, nil)), api.ErrLimit)
}

func TestSearchesAgainstLibrary(t *testing.T) {
	r := rand.New(rand.NewSource(2))
	for range 60 {
		on := someTable(t, r)
		from, to := somePlace(t, r, on), somePlace(t, r, on)
		n := r.Intn(3)
		var banks [][]int
		var reasons []bank.Reason
		level := [][]int{nil}
		for range n + 1 {
			var longer [][]int
			for _, w := range level {
				if number, why, _ := literal(t, on, from, to, w); why == "" {
					banks = append(banks, w)
				} else {
					reasons = append(reasons, bank.Reason{Word: w, At: number, Why: why})
				}
				for edge := range on.Corners {
					if len(w) == 0 || w[len(w)-1] != edge {
						longer = append(longer, append(slices.Clone(w), edge))
					}
				}
			}
			level = longer
		}
		want(t, "Banks", all(bank.Banks(on, from, to, n)), all(banks, api.OK))
		want(t, "Reasons", all(bank.Reasons(on, from, to, n)), all(reasons, api.OK))
		if len(banks) > 0 {
			want(t, "Fewest", all(bank.Fewest(on, from, to, n)), all(banks[0], api.OK))
		}
	}
}
