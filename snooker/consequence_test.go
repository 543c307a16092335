package snooker_test

import (
	"fmt"
	"math/rand"
	"slices"
	"testing"

	"baulk/api"
	"baulk/number"
	"baulk/snooker"
)

// Tests of P6.6 (consequences), for frames of all games.

// forFrames calls a test with logs of many frames.
func forFrames(seed int64, test func(g snooker.Game, l []snooker.Entry, r *rand.Rand)) {
	r := rand.New(rand.NewSource(seed))
	for range 30 {
		for _, g := range games() {
			test(g, someLog(r, g, r.Intn(80)), r)
		}
	}
}

func TestEntryByEntry(t *testing.T) {
	forFrames(61, func(g snooker.Game, l []snooker.Entry, _ *rand.Rand) {
		s, e := snooker.Start(g)
		wantError(t, "Start", all(s, e), api.OK)
		var legal []snooker.Entry
		var refused []snooker.Refusal
		var sums, penalties [2]int
		for i, x := range l {
			rule, e := snooker.Legal(g, s, x)
			wantError(t, "Legal", all(rule, e), api.OK)
			if rule != 0 {
				refused = append(refused, snooker.Refusal{Number: i + 1, Rule: rule})
				continue
			}
			left, _ := snooker.Left(g, s)
			v, e := snooker.Judge(g, s, x)
			if x.Kind == "shot" {
				wantError(t, "Judge", all(v, e), api.OK)
			}
			if v.Foul != 0 && (v.Points != 0 || v.Stays) {
				t.Errorf("the foul %+v scores", v)
			}
			if g.Kind == "snooker" && v.Points > left {
				t.Errorf("%d points of %d that are left", v.Points, left)
			}
			penalties[1-s.Turn] += v.Penalty
			s, e = snooker.Next(g, s, x)
			wantError(t, "Next", all(s, e), api.OK)
			want(t, "CheckState", all(snooker.CheckState(g, s)), all(api.OK))
			legal = append(legal, x)
		}
		want(t, "the state at once", all(snooker.Replay(g, l)), all(s, refused, api.OK))
		want(t, "the state without what is set aside", all(snooker.Replay(g, legal)), all(s, []snooker.Refusal(nil), api.OK))
		for player := range 2 {
			breaks, e := snooker.Breaks(g, l, player)
			wantError(t, "Breaks", all(breaks, e), api.OK)
			for _, points := range breaks {
				sums[player] += points
			}
			want(t, "the score of a player", all(s.Scores[player]), all(sums[player]+penalties[player]))
			want(t, "the breaks without what is set aside", all(snooker.Breaks(g, legal, player)), all(breaks, api.OK))
		}
	})
}

func TestTheGreatestScore(t *testing.T) {
	// What is left can be made: red and black as long as there are reds, then the colours.
	for _, g := range []snooker.Game{reds(1), reds(2), reds(15)} {
		s, _ := snooker.Start(g)
		for s.Winner < 0 {
			left, _ := snooker.Left(g, s)
			x := map[string]snooker.Entry{"red": shot("", "red", "red"), "colour": shot("black", "black", "black")}[s.Phase]
			if s.Phase == "final" {
				ball := colours(s.Colour, s.Colour)[0]
				x = shot("", ball, ball)
			}
			v, _ := snooker.Judge(g, s, x)
			next, e := snooker.Next(g, s, x)
			wantError(t, "Next", all(next, e), api.OK)
			after, _ := snooker.Left(g, next)
			want(t, fmt.Sprintf("what is left after %+v", s), all(after), all(left-v.Points))
			s = next
		}
		want(t, "the score", all(s.Scores), all([2]int{8*g.Reds + 27, 0}))
	}
	free := state("red", isFree, withReds(15))
	left, _ := snooker.Left(reds(15), free)
	next, _ := snooker.Next(reds(15), free, shot("black", "black", "black"))
	after, _ := snooker.Left(reds(15), next)
	want(t, "what is left after a free ball", all(left-after), all(1))
}

func TestEnoughFouls(t *testing.T) {
	r := rand.New(rand.NewSource(62))
	for range 3000 {
		s, player := someState(r, reds(15)), r.Intn(2)
		s.Winner = -1
		n, e := snooker.Needed(reds(15), s, player)
		left, _ := snooker.Left(reds(15), s)
		reach := func(n int) bool { return s.Scores[player]+left+4*n >= s.Scores[1-player] }
		if e != api.OK || n < 0 || !reach(n) || n > 0 && reach(n-1) {
			t.Errorf("%d fouls with %d left in %+v: %d", n, left, s, e)
		}
	}
}

func TestAuditsFindTheEntry(t *testing.T) {
	forFrames(63, func(g snooker.Game, l []snooker.Entry, r *rand.Rand) {
		var scores [][2]int
		for i := range l {
			s, _, _ := snooker.Replay(g, l[:i+1])
			scores = append(scores, s.Scores)
		}
		want(t, "Audit", all(snooker.Audit(g, l, scores)), all(0, api.OK))
		if len(l) > 0 {
			n := r.Intn(len(l))
			scores[n][r.Intn(2)] += pick(r, -1, 1, 7)
			want(t, "Audit of a change", all(snooker.Audit(g, l, scores)), all(n+1, api.OK))
		}
	})
}

func TestRefusedEntriesCanBeLeftOut(t *testing.T) {
	forFrames(64, func(g snooker.Game, l []snooker.Entry, _ *rand.Rand) {
		s, refused, _ := snooker.Replay(g, l)
		for i, x := range refused {
			without := slices.Delete(slices.Clone(l), x.Number-1, x.Number)
			var others []snooker.Refusal
			for j, y := range refused {
				if j > i {
					y.Number--
				}
				if j != i {
					others = append(others, y)
				}
			}
			want(t, "Replay without an entry", all(snooker.Replay(g, without)), all(s, others, api.OK))
		}
	})
}

func TestColoursOverlapNoBall(t *testing.T) {
	r := rand.New(rand.NewSource(65))
	rat := func() api.Rat {
		x, _ := number.Of(r.Intn(41)-20, 1+r.Intn(9))
		return x
	}
	for range 2000 {
		var spots, balls []api.Place
		for range 1 + r.Intn(6) {
			spots = append(spots, api.Place{X: rat(), Y: rat()})
		}
		for range r.Intn(25) {
			ball := api.Place{X: rat(), Y: rat()}
			if chance(r, 2) {
				ball = pick(r, spots...)
			}
			balls = append(balls, ball)
		}
		along := api.Place{X: rat(), Y: rat()}
		own := r.Intn(len(spots))
		n, far, e := snooker.Respot(spots, balls, own, along, "3/2")
		if along == (api.Place{X: "0", Y: "0"}) {
			wantError(t, "Respot without a direction", all(n, far, e), api.ErrZero)
			continue
		}
		what := fmt.Sprintf("Respot of %d in %v with balls at %v along %v", own, spots, balls, along)
		want(t, what, all(snooker.CheckRespot(spots, balls, n, along, "3/2", far), e), all(api.OK, api.OK))
		sign, _ := number.SurdSign(far)
		if isPut := sign == 0; !isPut && n != own {
			t.Errorf("%s: beside the spot %d", what, n)
		}
	}
}
