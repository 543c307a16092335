package match_test

import (
	"slices"
	"testing"

	"baulk/api"
	"baulk/match"
)

// Tests of P7.4 (logs).

// mixed is a log of which some entries are set aside, and refusals are those of a whole log.
const mixed = "frame 0, break 1, break 0, break 0, out 0, out 0, shot 0 31, frame 0, shot 0 31, break 1, shot 0 31, out 0, concede 1, break 0, break 1, out 0, leave 0, break 1, leave 1"

// refusals returns pairs of numbers and rules.
func refusals(pairs ...[2]int) []match.Refusal {
	var list []match.Refusal
	for _, pair := range pairs {
		list = append(list, match.Refusal{Number: pair[0], Rule: pair[1]})
	}
	return list
}

func TestReplay(t *testing.T) {
	m := example()
	want(t, "no entries", all(match.Replay(m, nil)), all(match.State{Winner: -1}, refusals(), api.OK))
	end := match.State{Sets: [2]int{1, 0}, Past: [][2]int{{2, 0}}, Breaker: 1, Outs: [2]int{1, 0}, Winner: 1}
	aside := refusals([2]int{1, 4}, [2]int{2, 3}, [2]int{4, 2}, [2]int{6, 6}, [2]int{9, 4}, [2]int{12, 6}, [2]int{14, 3}, [2]int{18, 1}, [2]int{19, 1})
	want(t, "a long log", all(match.Replay(m, entries(mixed))), all(end, aside, api.OK))
	// In the first frame the player 0 is warned once, in the second one, too.
	s, _, _ := match.Replay(m, entries(mixed)[:11])
	want(t, "a warning", all(s), all(match.State{Frames: [2]int{1, 0}, Breaker: 1, Outs: [2]int{1, 0}, Warned: [2]bool{true, false}, Running: true, Winner: -1}))
	m.Clock = 0
	_, refused, e := match.Replay(m, entries("break 0, shot 0 31, shot 1, frame 0, shot 0 31"))
	want(t, "shots without a clock", all(refused, e), all(refusals([2]int{2, 5}, [2]int{3, 5}, [2]int{5, 4}), api.OK))
	m.Starts = [2]int{1, 0}
	want(t, "a start", all(match.Replay(m, entries("break 0, frame 0, break 1"))), all(match.State{Sets: [2]int{1, 0}, Frames: [2]int{1, 0}, Past: [][2]int{{2, 0}}, Breaker: 1, Running: true, Winner: -1}, refusals(), api.OK))
}

func TestAllIsRefused(t *testing.T) {
	m := example()
	l := make([]match.Entry, api.MaxShots)
	for i := range l {
		l[i] = entry("concede 1")
	}
	s, refused, e := match.Replay(m, l)
	want(t, "1000 entries", all(s, len(refused), refused[999], e), all(match.State{Winner: -1}, 1000, match.Refusal{Number: 1000, Rule: 4}, api.OK))
}

func TestWithout(t *testing.T) {
	m := example()
	l := entries(mixed)
	for n := range l {
		rest := slices.Delete(slices.Clone(l), n, n+1)
		s, refused, e := match.Replay(m, rest)
		want(t, "Without", all(match.Without(m, l, n+1)), all(s, refused, e))
	}
	want(t, "without a break", all(match.Without(m, entries("break 0, frame 0, break 1, frame 0"), 1)),
		all(match.State{Breaker: 0, Winner: -1}, refusals([2]int{1, 4}, [2]int{2, 3}, [2]int{3, 4}), api.OK))
	want(t, "without the last entry", all(match.Without(m, entries("break 0, frame 0, leave 1"), 3)), all(match.State{Frames: [2]int{1, 0}, Breaker: 1, Winner: -1}, refusals(), api.OK))
	want(t, "without the only entry", all(match.Without(m, entries("leave 0"), 1)), all(match.State{Winner: -1}, refusals(), api.OK))
	for _, n := range []int{0, -1, 3, 1000000} {
		wantError(t, "without no entry", all(match.Without(m, entries("break 0, frame 0"), n)), api.ErrUnknown)
	}
	wantError(t, "without an entry of no log", all(match.Without(m, nil, 1)), api.ErrUnknown)
	// The whole log is checked, also the entry that is left out.
	wantError(t, "without an entry with an error", all(match.Without(m, []match.Entry{{Kind: "x"}}, 1)), api.ErrKind)
	wantError(t, "without no entry of a log with an error", all(match.Without(m, []match.Entry{{Kind: "x"}}, 2)), api.ErrKind)
}

func TestErrorsOfReplay(t *testing.T) {
	for _, row := range entryRows() {
		if row.e != api.OK {
			l := []match.Entry{entry("break 0"), {Player: row.player, Kind: row.kind, Value: row.value}}
			wantError(t, "Replay", all(match.Replay(example(), l)), row.e)
			wantError(t, "Without", all(match.Without(example(), l, 3)), row.e)
		}
	}
}
