package snooker_test

import (
	"testing"

	"baulk/api"
	"baulk/snooker"
)

// Tests of P6.3 (logs).

// example returns the log of the examples 1 and 2 of the chapter.
func example() []snooker.Entry {
	return []snooker.Entry{
		shot("", "red", "red"),
		shot("black", "black", "black"),
		shot("", "green", ""),
		act("free"),
		shot("brown", "brown", "brown"),
		shot("", "yellow", "yellow"),
	}
}

// mixed returns a log of which some entries are set aside, and the scores after each entry.
func mixed() ([]snooker.Entry, [][2]int) {
	return []snooker.Entry{
		act("again"),                     // 1: refused by 2
		shot("", "red", "red"),           // 2
		shot("", "red", "red"),           // 3: refused by 3
		shot("pink", "pink", "pink"),     // 4
		shot("", "red", "red red"),       // 5: refused by 4
		shot("", "pink", "red"),          // 6: the foul 2, with the last red
		act("again"),                     // 7
		shot("", "yellow", "yellow"),     // 8
		shot("", "green", "green white"), // 9: the foul 3
		shot("", "brown", ""),            // 10: the foul 2, as green is on
		act("concede"),                   // 11
		act("concede"),                   // 12: refused by 1
	}, [][2]int{
		{0, 0}, {1, 0}, {1, 0}, {7, 0}, {7, 0}, {7, 6}, {7, 6}, {9, 6}, {9, 10}, {13, 10}, {13, 10}, {13, 10},
	}
}

func TestReplay(t *testing.T) {
	none := []snooker.Refusal{}
	for _, row := range []struct {
		n int
		s snooker.State
	}{
		{0, state("red")},
		{1, state("colour", scored(1, 0, 1))},
		{2, state("final", scored(8, 0, 8))},
		{3, state("final", ofPlayer1, scored(8, 4, 0), isFouled)},
		{4, state("final", ofPlayer1, scored(8, 4, 0), isFree)},
		{5, state("final", ofPlayer1, scored(8, 6, 2))},
		{6, state("final", at(3), ofPlayer1, scored(8, 8, 4))},
	} {
		want(t, "the example", all(snooker.Replay(reds(1), example()[:row.n])), all(row.s, none, api.OK))
	}
	l, _ := mixed()
	want(t, "a log with refusals", all(snooker.Replay(reds(2), l)), all(
		state("final", at(3), scored(13, 10, 0), wonBy(1)),
		[]snooker.Refusal{{Number: 1, Rule: 2}, {Number: 3, Rule: 3}, {Number: 5, Rule: 4}, {Number: 12, Rule: 1}}, api.OK))
	wantError(t, "Replay of a wrong game", all(snooker.Replay(reds(0), l)), api.ErrRange)
	wantError(t, "Replay of a wrong entry", all(snooker.Replay(reds(2), append(l, shot("red", "", "")))), api.ErrUnknown)
	wantError(t, "Replay of too many entries", all(snooker.Replay(reds(2), make([]snooker.Entry, 1001))), api.ErrMany)
}

func TestReplayOfCarom(t *testing.T) {
	g := carom(2, 10)
	l := []snooker.Entry{cannon("red yellow", 3), cannon("red yellow", 3), cannon("red white", 3), cannon("red white", 3)}
	want(t, "a turn", all(played(t, g, l[:2]...)), all(state("play", ofPlayer1, scored(2, 0, 0), withTurns(1, 0))))
	want(t, "a draw", all(played(t, g, l...)), all(state("play", scored(2, 2, 0), withTurns(1, 1), wonBy(2))))
	want(t, "after the draw", all(snooker.Replay(g, append(l, l[0]))), all(
		state("play", scored(2, 2, 0), withTurns(1, 1), wonBy(2)), []snooker.Refusal{{Number: 5, Rule: 1}}, api.OK))
}

func TestBreaks(t *testing.T) {
	l, _ := mixed()
	for _, row := range []struct {
		name   string
		g      snooker.Game
		l      []snooker.Entry
		breaks [2][]int
	}{
		{"no entries", reds(1), nil, [2][]int{}},
		{"the example", reds(1), example(), [2][]int{{8}, {4}}},
		{"a visit that the log ends", reds(1), example()[:1], [2][]int{{1}, nil}},
		{"a log with refusals", reds(2), l, [2][]int{{7, 2}, nil}},
		{"a visit that a concession ends", reds(2), append(l[1:4:4], act("concede")), [2][]int{{7}, nil}},
		{"visits without points", reds(2), []snooker.Entry{shot("", "red", ""), shot("", "red", "red"), shot("pink", "pink", ""), shot("", "red", ""), shot("", "red", "red")}, [2][]int{nil, {1, 1}}},
		{"a turn that the target ends", carom(2, 10), []snooker.Entry{cannon("red yellow", 3), cannon("red yellow", 3), cannon("red white", 4)}, [2][]int{{2}, {1}}},
		{"a frame that is drawn", carom(1, 10), []snooker.Entry{cannon("red yellow", 3), cannon("red white", 4), cannon("red white", 4)}, [2][]int{{1}, {1}}},
		{"a frame that is won", billiards(4), []snooker.Entry{shot("", "red", "red"), shot("", "", ""), shot("", "red white", "red"), shot("", "red yellow", "")}, [2][]int{{3}, {5}}},
	} {
		for player := range 2 {
			want(t, "Breaks of "+row.name, all(snooker.Breaks(row.g, row.l, player)), all(row.breaks[player], api.OK))
		}
	}
	wantError(t, "Breaks of a wrong game", all(snooker.Breaks(reds(0), l, 2)), api.ErrRange)
	wantError(t, "Breaks of a wrong log", all(snooker.Breaks(reds(1), append(l, act("x")), 2)), api.ErrKind)
	wantError(t, "Breaks of the player 2", all(snooker.Breaks(reds(1), l, 2)), api.ErrRange)
	wantError(t, "Breaks of the player -1", all(snooker.Breaks(reds(1), l, -1)), api.ErrRange)
}

func TestBreakThatLevelsTheScores(t *testing.T) {
	l := []snooker.Entry{shot("", "red", "red"), shot("yellow", "yellow", "yellow"), shot("", "yellow", "")}
	l = append(l, shot("", "yellow", "yellow"), shot("", "green", "green"), shot("", "brown", "brown"), shot("", "blue", ""))
	l = append(l, shot("", "blue", "blue"), shot("", "pink", ""), shot("", "pink", "pink"), shot("", "black", ""))
	want(t, "before black", all(played(t, reds(1), l...)), all(state("final", at(7), scored(8, 15, 0))))
	l = append(l, shot("", "black", "black"))
	want(t, "after black", all(played(t, reds(1), l...)), all(state("final", at(7), ofPlayer1, scored(15, 15, 0))))
	l = append(l, shot("", "black", "black"))
	want(t, "after another black", all(played(t, reds(1), l...)), all(state("final", at(7), ofPlayer1, scored(15, 22, 7), wonBy(1))))
	want(t, "the breaks of 0", all(snooker.Breaks(reds(1), l, 0)), all([]int{3, 5, 7}, api.OK))
	want(t, "the breaks of 1", all(snooker.Breaks(reds(1), l, 1)), all([]int{9, 6, 7}, api.OK))
}

func TestAudit(t *testing.T) {
	want(t, "the example", all(snooker.Audit(reds(1), example()[:2], [][2]int{{1, 0}, {7, 0}})), all(2, api.OK))
	want(t, "no entries", all(snooker.Audit(reds(1), nil, nil)), all(0, api.OK))
	l, scores := mixed()
	want(t, "right scores", all(snooker.Audit(reds(2), l, scores)), all(0, api.OK))
	for i := range scores {
		for player := range 2 {
			_, wrong := mixed()
			wrong[i][player]++
			want(t, "a wrong score", all(snooker.Audit(reds(2), l, wrong)), all(i+1, api.OK))
			wrong[len(wrong)-1][player] = -1
			want(t, "wrong scores", all(snooker.Audit(reds(2), l, wrong)), all(i+1, api.OK))
		}
	}
	wantError(t, "Audit of fewer scores", all(snooker.Audit(reds(2), l, scores[1:])), api.ErrShape)
	wantError(t, "Audit of more scores", all(snooker.Audit(reds(2), l, append(scores, [2]int{}))), api.ErrShape)
	wantError(t, "Audit of a wrong log", all(snooker.Audit(reds(2), append(l, act("x")), nil)), api.ErrKind)
	wantError(t, "Audit of a wrong game", all(snooker.Audit(billiards(0), l, nil)), api.ErrRange)
}
