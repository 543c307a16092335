package pool_test

import (
	"fmt"
	"math/rand"
	"slices"
	"testing"

	"baulk/api"
	"baulk/pool"
)

// Tests of P5.7 (consequences) for frames of all games.

// forFrames calls a test with logs of many frames.
func forFrames(seed int64, test func(rules pool.Rules, l []pool.Shot, r *rand.Rand)) {
	r := rand.New(rand.NewSource(seed))
	for range 40 {
		for _, rules := range games() {
			test(rules, someLog(r, rules, r.Intn(80)), r)
		}
	}
}

func TestShotByShot(t *testing.T) {
	forFrames(61, func(rules pool.Rules, l []pool.Shot, _ *rand.Rand) {
		s, e := pool.Start(rules)
		wantError(t, "Start", all(s, e), api.OK)
		var legal []pool.Shot
		for _, x := range l {
			rule, e := pool.Legal(rules, s, x)
			wantError(t, "Legal", all(rule, e), api.OK)
			if rule == 0 {
				s, e = pool.Next(rules, s, x)
				wantError(t, "Next", all(s, e), api.OK)
				legal = append(legal, x)
			}
		}
		want(t, "CheckState", all(pool.CheckState(rules, s)), all(api.OK))
		at, _, e := pool.Replay(rules, l)
		want(t, "the state at once", all(at, e), all(s, api.OK))
		want(t, "the state without what is set aside", all(pool.Replay(rules, legal)), all(s, []pool.Refusal(nil), api.OK))
		if len(l) == len(legal) {
			want(t, "Changed", all(pool.Changed(rules, l, legal)), all(0, api.OK))
		}
	})
}

func TestScoresAreSums(t *testing.T) {
	forFrames(62, func(rules pool.Rules, l []pool.Shot, _ *rand.Rand) {
		s, _, _ := pool.Replay(rules, l)
		notes, _ := pool.Notes(rules, l)
		runs, _ := pool.Runs(rules, l)
		var changes, gains, inRuns [2]int
		for _, n := range notes {
			changes[n.Player] += n.Points
			gains[n.Player] += max(n.Points, 0)
			if n.Foul > 0 && n.Points > 0 {
				t.Errorf("the foul %+v scores", n)
			}
		}
		for _, run := range runs {
			inRuns[run.Player] += run.Points
		}
		want(t, "the sum of the changes", all(changes), all(s.Scores))
		want(t, "the sum of the runs", all(inRuns), all(gains))
	})
}

func TestTurns(t *testing.T) {
	forFrames(63, func(rules pool.Rules, l []pool.Shot, _ *rand.Rand) {
		before, _ := pool.Start(rules)
		notes, _ := pool.Notes(rules, l)
		for i, n := range notes {
			after, _, _ := pool.Replay(rules, l[:i+1])
			isKept := n.Points > 0 || rules.Game == "straight" && n.Points == -16
			if n.Rule == 0 && !after.Over && (after.Turn == before.Turn) != isKept {
				t.Errorf("the turn is %d, then %d by %+v", before.Turn, after.Turn, l[i])
			}
			isRacked := after.Racks > before.Racks
			for _, ball := range after.Balls {
				if !isRacked && !slices.Contains(before.Balls, ball) {
					t.Errorf("the ball %d is on the table after %+v", ball, l[i])
				}
			}
			if isRacked {
				want(t, "the balls of a rack", all(after.Balls, after.Racks), all(rack("straight"), before.Racks+1))
			}
			before = after
		}
	})
}

func TestFramesThatAreOver(t *testing.T) {
	forFrames(64, func(rules pool.Rules, l []pool.Shot, r *rand.Rand) {
		s, _, _ := pool.Replay(rules, append(slices.Clone(l), pool.Shot{Player: r.Intn(2), Kind: "concede"}))
		for _, kind := range kinds() {
			for player := range 2 {
				x := pool.Shot{Player: player, Kind: kind}
				want(t, "Legal of "+kind, all(pool.Legal(rules, s, x)), all(1, api.OK))
				wantError(t, "Foul of "+kind, all(pool.Foul(rules, s, x)), api.ErrRule)
				wantError(t, "Next of "+kind, all(pool.Next(rules, s, x)), api.ErrRule)
			}
		}
	})
}

func TestCorrectionsChangeNothingBefore(t *testing.T) {
	forFrames(65, func(rules pool.Rules, l []pool.Shot, r *rand.Rand) {
		if len(l) == 0 {
			return
		}
		n := 1 + r.Intn(len(l))
		s, _, _ := pool.Replay(rules, l[:n-1])
		x := someShot(r, rules, s)
		corrected, e := pool.Correct(l, n, x)
		wantError(t, "Correct", all(corrected, e), api.OK)
		first, e := pool.Changed(rules, l, corrected)
		if e != api.OK || first != 0 && first < n {
			t.Errorf("a correction of the entry %d changes the state after %d (%d)", n, first, e)
		}
		want(t, "the corrected log", all(corrected[:n-1], corrected[n-1], corrected[n:]), all(l[:n-1], x, l[n:]))
		want(t, "the correction taken back", all(pool.Correct(corrected, n, l[n-1])), all(l, api.OK))
	})
}

func TestShotsAreReadAsPrinted(t *testing.T) {
	r := rand.New(rand.NewSource(66))
	for range 4000 {
		rules := pick(r, games()...)
		x := someShot(r, rules, someState(r, rules))
		notation, e := pool.Print(x)
		wantError(t, fmt.Sprintf("Print of %+v", x), all(notation, e), api.OK)
		want(t, fmt.Sprintf("Parse of %q", notation), all(pool.Parse(notation)), all(x, 0, api.OK))
	}
	// What is read is printed as it was; other texts have an error.
	letters := "ab +cfp/0123456789"
	for range 40000 {
		rules := pick(r, games()...)
		notation, _ := pool.Print(someShot(r, rules, someState(r, rules)))
		at := r.Intn(len(notation))
		i := r.Intn(len(letters))
		changed := notation[:at] + letters[i:i+r.Intn(2)] + notation[at+r.Intn(2):]
		x, _, e := pool.Parse(changed)
		if e != api.OK {
			continue
		}
		want(t, fmt.Sprintf("Print of %q", changed), all(pool.Print(x)), all(changed, api.OK))
	}
}
