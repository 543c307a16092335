package aim_test

import (
	"fmt"
	"math/big"
	"math/rand"
	"slices"
	"testing"

	"baulk/aim"
	"baulk/api"
	"baulk/table"
)

// Tests of P4.4 (plans).

// planned returns the shot on a table from 0 0 to 100 60 with some pockets at the second one of some balls.
func planned(pockets []table.Pocket, coordinates ...api.Rat) aim.Shot {
	s := aimed(coordinates...)
	s.Table.Pockets = pockets
	return s
}

// pockets returns a list of pockets.
func pockets(list ...table.Pocket) []table.Pocket { return list }

func TestPlans(t *testing.T) {
	straight := []api.Rat{"20", "30", "50", "30"} // hit at 16 the ball a goes to 100 30, hit at 20 to 145/2 60
	corner := []api.Rat{"30", "20", "70", "20"}   // hit at 20 the ball a goes to the corner 100 60
	middle := pockets(pocket("p", 1, "1/2", "1/2"))
	for _, row := range []struct {
		shot   aim.Shot
		pocket string
		plan   []int
	}{
		{shot("one"), "c", []int{16}}, {shot("one"), "a", nil}, {shot("one", ball("three", "700", "500")), "c", nil}, {shot("two"), "a", nil},
		{planned(middle, straight...), "p", []int{16}}, {planned(pockets(pocket("p", 1, "0", "1/2")), straight...), "p", []int{13, 14, 15, 16}}, {planned(pockets(pocket("p", 1, "0", "1")), straight...), "p", []int{13, 14, 15, 16, 17, 18}}, {planned(pockets(pocket("p", 1, "0", "9/19")), straight...), "p", []int{13, 14, 15}},
		{planned(pockets(pocket("p", 2, "11/40", "11/40")), straight...), "p", []int{20}}, {planned(pockets(pocket("p", 2, "0", "1")), straight...), "p", []int{19, 20, 21, 22, 23}}, {planned(pockets(pocket("p", 0, "0", "1")), straight...), "p", []int{9, 10, 11, 12}}, {planned(pockets(pocket("p", 3, "0", "1")), straight...), "p", nil},
		// A corner belongs to both edges, and the first pocket that has it counts.
		{planned(pockets(pocket("p", 1, "1", "1")), corner...), "p", []int{20}}, {planned(pockets(pocket("p", 2, "0", "0")), corner...), "p", []int{20}}, {planned(pockets(pocket("q", 1, "1", "1"), pocket("p", 2, "0", "0")), corner...), "p", nil}, {planned(pockets(pocket("p", 2, "0", "0"), pocket("q", 1, "1", "1")), corner...), "p", []int{20}},
		// Balls that just do not block the way, or do.
		{planned(middle, append(straight, "70", "32")...), "p", []int{16}}, {planned(middle, append(straight, "70", "63/2")...), "p", nil}, {planned(middle, append(straight, "100", "32")...), "p", []int{16}}, {planned(middle, append(straight, "100", "63/2")...), "p", nil}, {planned(middle, append(straight, "50", "32")...), "p", []int{16}}, {planned(middle, append(straight, "52", "30")...), "p", nil},
		{planned(pockets(pocket("p", 1, "0", "1")), append(straight, "70", "30")...), "p", []int{13, 14, 15, 17, 18}}, {planned(middle, append(straight, "48", "32")...), "p", []int{16}}, {planned(middle, append(straight, "35", "30")...), "p", nil},
		// A ball on an edge is there already.
		{planned(middle, "20", "30", "100", "30"), "p", numbers(9, 23)}, {planned(pockets(pocket("p", 0, "0", "1")), "20", "30", "100", "30"), "p", nil}, {planned(middle, "20", "30", "100", "30", "100", "32"), "p", numbers(13, 23)},
	} {
		want(t, fmt.Sprintf("Plan for %s of %v with %v", row.pocket, row.shot.Table.Pockets, row.shot.Balls), all(aim.Plan(row.shot, row.pocket)), all(row.plan, api.OK))
	}
}

func TestCheckPlans(t *testing.T) {
	x := at("1", "0")
	middle := pockets(pocket("p", 1, "1/2", "1/2"), pocket("q", 2, "0", "1"))
	straight := []api.Rat{"20", "30", "50", "30"}
	twice := planned(pockets(pocket("q", 1, "1", "1"), pocket("p", 2, "0", "0")), "60", "20", "80", "40")
	for _, row := range []struct {
		shot      aim.Shot
		pocket    string
		direction api.Place
		e         api.Errno
	}{
		{shot("one"), "c", x, api.OK}, {shot("one"), "c", at("440", "0"), api.OK}, {shot("one"), "c", at("1/"+nines(600), "0"), api.OK}, {shot("one"), "a", x, api.ErrProof}, {shot("two"), "c", x, api.ErrProof}, {shot("one"), "c", at("-1", "0"), api.ErrProof}, {shot("one"), "c", at("100", "1"), api.ErrProof},
		{planned(middle, straight...), "p", x, api.OK}, {planned(middle, straight...), "q", x, api.ErrProof}, {planned(middle, straight...), "q", at("20", "-1"), api.OK}, {planned(middle, straight...), "p", at("20", "-1"), api.ErrProof}, {planned(middle, straight...), "p", at("1", "1/"+nines(600)), api.ErrProof},
		{planned(middle, append(straight, "70", "30")...), "p", x, api.ErrProof}, {planned(middle, append(straight, "70", "32")...), "p", x, api.OK}, {planned(middle, append(straight, "35", "30")...), "p", x, api.ErrProof}, {planned(middle, append(straight, "35", "32")...), "p", x, api.OK},
		{twice, "p", at("1", "1"), api.ErrProof}, {twice, "q", at("1", "1"), api.OK},
	} {
		want(t, fmt.Sprintf("CheckPlan for %s of %v with %v along %.50v", row.pocket, row.shot.Table.Pockets, row.shot.Balls, row.direction), all(aim.CheckPlan(row.shot, row.pocket, row.direction)), all(row.e))
	}
	// At the place 16 the cue ball touches b, too: of both the first one in the list is the one that is hit.
	both := planned(middle, append(straight, "1214/25", "798/25")...)
	want(t, "Plan", all(aim.Plan(both, "p")), all([]int{16}, api.OK))
	want(t, "CheckPlan", all(aim.CheckPlan(both, "p", x)), all(api.OK))
	slices.Reverse(both.Balls)
	want(t, "Plan", all(aim.Plan(both, "p")), all([]int{16}, api.OK))
	want(t, "CheckPlan", all(aim.CheckPlan(both, "p", x)), all(api.ErrProof))
}

func TestWindows(t *testing.T) {
	edge := pockets(pocket("p", 1, "0", "1"))
	for _, row := range []struct {
		shot   aim.Shot
		pocket string
		window []int
	}{
		{shot("one"), "a", numbers(0, 64)}, {shot("one"), "c", numbers(0, 64)}, {shot("two"), "c", numbers(0, 64)}, {shot("two"), "a", numbers(0, 64)},
		{planned(edge, "20", "30", "90", "30"), "p", numbers(0, 64)}, {planned(edge, "20", "30", "90", "30", "95", "30"), "p", append(numbers(0, 27), numbers(37, 64)...)}, {planned(edge, "95", "30", "90", "30"), "p", numbers(0, 64)},
		// The way to the step 0 just touches b, and if the pocket begins a little earlier, it is blocked.
		{planned(pockets(pocket("p", 1, "13/18", "1")), "20", "30", "90", "30", "185/2", "30"), "p", numbers(0, 64)}, {planned(pockets(pocket("p", 1, "4333/6000", "1")), "20", "30", "90", "30", "185/2", "30"), "p", numbers(1, 64)},
		{planned(pockets(pocket("p", 1, "1/2", "1/2")), "20", "30", "90", "30"), "p", numbers(0, 64)}, {planned(pockets(pocket("p", 1, "1/2", "1/2")), "20", "30", "90", "30", "95", "30"), "p", nil}, {planned(pockets(pocket("p", 1, "1/2", "17/30")), "20", "30", "90", "30", "100", "30"), "p", numbers(33, 64)},
		{planned(pockets(pocket("p", 1, "1/2", "3/4")), "20", "30", "100", "30", "100", "40"), "p", numbers(0, 34)},
	} {
		want(t, fmt.Sprintf("Window of %s of %v with %v", row.pocket, row.shot.Table.Pockets, row.shot.Balls), all(aim.Window(row.shot, row.pocket)), all(row.window, api.OK))
	}
}

func TestReachable(t *testing.T) {
	on := pockets(pocket("z", 1, "1/2", "1/2"), pocket("m", 2, "0", "1"), pocket("a", 0, "1", "1"), pocket("k", 3, "0", "1/2"))
	for _, row := range []struct {
		shot  aim.Shot
		names []string
	}{
		{shot("one"), []string{"a", "c"}}, {planned(nil, "20", "30", "90", "30"), nil}, {planned(on, "20", "30", "90", "30"), []string{"z", "m", "a", "k"}}, {planned(on, "20", "30", "90", "30", "95", "30"), []string{"m", "a", "k"}}, {planned(on, "20", "30", "90", "30", "95", "30", "99", "1"), []string{"m", "k"}},
		{planned(on, "20", "30", "90", "30", "90", "32", "90", "28", "92", "30"), []string{"k"}},
	} {
		want(t, fmt.Sprintf("Reachable with %v", row.shot.Balls), all(aim.Reachable(row.shot)), all(row.names, api.OK))
	}
}

func TestCombinations(t *testing.T) {
	on := pockets(pocket("p", 1, "1/2", "1/2"), pocket("q", 1, "3/4", "1"))
	straight := []api.Rat{"20", "30", "50", "30", "60", "30"}
	for _, row := range []struct {
		shot           aim.Shot
		second, pocket string
		numbers        []int
	}{
		{planned(on, straight...), "b", "p", []int{16}}, {planned(on, straight...), "b", "q", []int{15}}, {planned(on, "20", "30", "50", "30", "52", "30"), "b", "p", numbers(9, 23)}, {planned(on, "20", "30", "50", "30", "50", "32"), "b", "p", nil},
		// Balls that block the cue ball, the ball, or the second one, and balls that just do not.
		{planned(on, append(straight, "35", "30")...), "b", "p", nil}, {planned(on, append(straight, "55", "30")...), "b", "p", nil}, {planned(on, append(straight, "55", "30")...), "c", "p", nil}, {planned(on, append(straight, "80", "30")...), "b", "p", nil}, {planned(on, append(straight, "80", "30")...), "c", "p", nil},
		{planned(on, append(straight, "35", "32", "55", "32", "80", "28")...), "b", "p", []int{16}}, {planned(on, append(straight, "35", "30", "55", "32", "80", "28")...), "b", "p", nil},
		{planned(on, append(straight, "70", "20")...), "c", "p", nil},
	} {
		want(t, fmt.Sprintf("Combination with %s for %s of %v", row.second, row.pocket, row.shot.Balls), all(aim.Combination(row.shot, row.second, row.pocket)), all(row.numbers, api.OK))
	}
}

func TestCaroms(t *testing.T) {
	base := []api.Rat{"20", "30", "50", "30", "317/5", "256/5"} // from 12 the cue ball goes from 242/5 156/5 in the direction 3 4
	for _, row := range []struct {
		shot    aim.Shot
		second  string
		numbers []int
	}{
		{aimed(base...), "b", []int{12}}, {aimed(append(base, "60", "30")...), "c", nil}, {aimed("20", "30", "50", "30", "317/5", "44/5"), "b", []int{19}}, {aimed("20", "30", "50", "30", "52", "30"), "b", nil},
		// In the middle of the ball the cue ball does not go on; a ball that is just touched is not hit.
		{aimed("20", "30", "50", "30", "48", "40"), "b", []int{15}}, {aimed("20", "30", "50", "30", "48", "32"), "b", nil}, {aimed("20", "30", "50", "30", "293/5", "208/5", "317/5", "256/5"), "c", nil}, {aimed("20", "30", "50", "30", "293/5", "208/5", "317/5", "256/5"), "b", []int{11, 12}},
		{aimed("20", "30", "50", "30", "65", "50"), "b", nil}, {aimed("20", "30", "50", "30", "64999/1000", "50"), "b", []int{12}},
	} {
		want(t, fmt.Sprintf("Carom with %s of %v", row.second, row.shot.Balls), all(aim.Carom(row.shot, row.second)), all(row.numbers, api.OK))
	}
}

func TestErrorsOfPlans(t *testing.T) {
	bad := at("x", "")
	errorsOfShots(t, "Plan", func(s aim.Shot) []any { return all(aim.Plan(s, "")) })
	errorsOfShots(t, "CheckPlan", func(s aim.Shot) []any { return all(aim.CheckPlan(s, "", bad)) })
	errorsOfShots(t, "Window", func(s aim.Shot) []any { return all(aim.Window(s, "")) })
	errorsOfShots(t, "Reachable", func(s aim.Shot) []any { return all(aim.Reachable(s)) })
	errorsOfShots(t, "Combination", func(s aim.Shot) []any { return all(aim.Combination(s, "", "")) })
	errorsOfShots(t, "Carom", func(s aim.Shot) []any { return all(aim.Carom(s, "")) })
	s := shot("one")
	for _, name := range []string{"", "b", "C", "one"} {
		wantError(t, "Plan", all(aim.Plan(s, name)), api.ErrUnknown)
		wantError(t, "CheckPlan", all(aim.CheckPlan(s, name, bad)), api.ErrUnknown)
		wantError(t, "Window", all(aim.Window(s, name)), api.ErrUnknown)
		wantError(t, "Combination", all(aim.Combination(s, "two", name)), api.ErrUnknown)
		wantError(t, "Combination", all(aim.Combination(s, "cue", name)), api.ErrTwice)
		wantError(t, "Combination", all(aim.Combination(s, "one", name)), api.ErrTwice)
	}
	for _, name := range []string{"", "c", "three"} {
		wantError(t, "Combination", all(aim.Combination(s, name, "x")), api.ErrUnknown)
		wantError(t, "Carom", all(aim.Carom(s, name)), api.ErrUnknown)
	}
	wantError(t, "Carom", all(aim.Carom(s, "cue")), api.ErrTwice)
	wantError(t, "Carom", all(aim.Carom(s, "one")), api.ErrTwice)
	for p, e := range badPlaces() {
		wantError(t, "CheckPlan", all(aim.CheckPlan(s, "c", p)), e)
	}
	wantError(t, "CheckPlan", all(aim.CheckPlan(s, "c", at("0", "0"))), api.ErrZero)
}

// without returns balls without one of them.
func without(l []table.Ball, name string) []table.Ball {
	return slices.DeleteFunc(slices.Clone(l), func(b table.Ball) bool { return b.Name == name })
}

// planOf returns the plan for a pocket, computed literally, from the places at which the ball can be hit.
func planOf(t *testing.T, s aim.Shot, open []int, name string) []int {
	t.Helper()
	return slices.DeleteFunc(slices.Clone(open), func(n int) bool {
		from, d := placeOf(t, s.Balls, s.Ball), minus(vector{whole(0), whole(0)}, unitOf(n))
		edge, _ := endOf(s.Table, from, realsOf(d))
		start, along := edgeOf(s.Table, edge)
		end := plus(from, over(cross(along, minus(from, start)), cross(d, along)), d)
		share := over(dot(minus(end, start), along), dot(along, along))
		return pocketOf(s.Table, edge, realOf(share)) != name || blockerOf(t, s.Table, s.Balls, from, end, s.Cue, s.Ball) != ""
	})
}

// windowOf returns the window of a pocket, computed literally.
func windowOf(t *testing.T, s aim.Shot, p table.Pocket) []int {
	t.Helper()
	from, to := rational(t, p.From), rational(t, p.To)
	start, along := edgeOf(s.Table, p.Edge)
	return slices.DeleteFunc(numbers(0, aim.Steps), func(k int) bool {
		share := sum(from, times(less(to, from), big.NewRat(int64(k), aim.Steps)))
		return blockerOf(t, s.Table, s.Balls, placeOf(t, s.Balls, s.Ball), plus(start, share, along), s.Cue, s.Ball) != ""
	})
}

// combinationOf returns a combination, caromOf a carom, computed literally.
func combinationOf(t *testing.T, s aim.Shot, open []int, second, name string) []int {
	t.Helper()
	return slices.DeleteFunc(slices.Clone(open), func(n int) bool {
		d := minus(vector{whole(0), whole(0)}, unitOf(n))
		c := collide(t, s.Table, without(s.Balls, s.Cue), s.Ball, placeOf(t, s.Balls, s.Ball), d)
		return c.name != second || c.pocket != name || c.isBlocked
	})
}

func caromOf(t *testing.T, s aim.Shot, open []int, second string) []int {
	t.Helper()
	return slices.DeleteFunc(slices.Clone(open), func(n int) bool {
		u, from := unitOf(n), declaredOf(t, s, n)
		d := minus(from, placeOf(t, s.Balls, s.Cue))
		d = plus(d, times(whole(-1), dot(d, u)), u)
		if d[0].Sign() == 0 && d[1].Sign() == 0 {
			return true
		}
		name, _ := firstOf(t, s.Table, s.Balls, from, realsOf(d), s.Cue, s.Ball)
		return name != second
	})
}

func TestPlansAgainstLibrary(t *testing.T) {
	r := rand.New(rand.NewSource(6))
	counts := map[string]int{}
	for range 100 {
		s := someShot(t, r)
		what := fmt.Sprintf("%v of %v", s, s.Table)
		var open []int
		for n := range aim.Units {
			if _, e := whyOf(t, s, n); e == api.OK {
				open = append(open, n)
			}
		}
		var reachable []string
		for _, p := range s.Table.Pockets {
			plan, window := planOf(t, s, open, p.Name), windowOf(t, s, p)
			want(t, fmt.Sprintf("Plan of %s for %s", p.Name, what), all(aim.Plan(s, p.Name)), all(plan, api.OK))
			want(t, fmt.Sprintf("Window of %s for %s", p.Name, what), all(aim.Window(s, p.Name)), all(window, api.OK))
			if len(window) > 0 {
				reachable = append(reachable, p.Name)
			}
			counts["plan"] += len(plan)
			counts["window"] += len(window)
			for _, second := range s.Balls[2:] {
				combination := combinationOf(t, s, open, second.Name, p.Name)
				want(t, fmt.Sprintf("Combination of %s and %s for %s", second.Name, p.Name, what), all(aim.Combination(s, second.Name, p.Name)), all(combination, api.OK))
				counts["combination"] += len(combination)
			}
		}
		want(t, "Reachable for "+what, all(aim.Reachable(s)), all(reachable, api.OK))
		for _, second := range s.Balls[2:] {
			carom := caromOf(t, s, open, second.Name)
			want(t, fmt.Sprintf("Carom of %s for %s", second.Name, what), all(aim.Carom(s, second.Name)), all(carom, api.OK))
			counts["carom"] += len(carom)
		}
	}
	if min(counts["plan"], counts["carom"], counts["window"]/99) < 40 || counts["combination"] < 10 {
		t.Errorf("only few results of one kind: %v", counts)
	}
}
