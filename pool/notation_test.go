package pool_test

import (
	"fmt"
	"strings"
	"testing"

	"baulk/api"
	"baulk/pool"
)

// Tests of P5.6 (notation).

func TestNotation(t *testing.T) {
	for text, x := range map[string]pool.Shot{
		"a break f3 + p9/2":              {Kind: "break", First: 3, Cushion: true, Pots: pots(2, 9)},
		"a play c10/1 f10 p10/1":         {Kind: "play", Ball: 10, Pocket: 1, First: 10, Pots: pots(1, 10)},
		"b play c5/2":                    {Player: 1, Kind: "play", Ball: 5, Pocket: 2},
		"b pass":                         {Player: 1, Kind: "pass"},
		"a concede":                      {Kind: "concede"},
		"b safety +":                     {Player: 1, Kind: "safety", Cushion: true},
		"a push f9 p9/6 p0/1 p15/6 p1/3": {Kind: "push", First: 9, Pots: []pool.Pot{{Ball: 9, Pocket: 6}, {Ball: 0, Pocket: 1}, {Ball: 15, Pocket: 6}, {Ball: 1, Pocket: 3}}},
		"b break c15/6 f15 + p0/1":       {Player: 1, Kind: "break", Ball: 15, Pocket: 6, First: 15, Cushion: true, Pots: pots(1, 0)},
		"a safety p1/1 p2/1 p3/1 p4/1 p5/1 p6/1 p7/1 p8/1 p9/1 p10/1 p11/1 p12/1 p13/1 p14/1 p15/1 p0/1": {Kind: "safety", Pots: allPots()},
	} {
		want(t, fmt.Sprintf("Print of %+v", x), all(pool.Print(x)), all(text, api.OK))
		want(t, fmt.Sprintf("Parse of %q", text), all(pool.Parse(text)), all(x, 0, api.OK))
	}
}

func TestErrorsOfPrint(t *testing.T) {
	for _, row := range []struct {
		x pool.Shot
		e api.Errno
	}{
		{pool.Shot{}, api.ErrKind}, {pool.Shot{Kind: "play", Player: 2}, api.ErrRange}, {pool.Shot{Kind: "play", Ball: 1}, api.ErrShape}, {pool.Shot{Kind: "play", Pots: pots(1, 1, 1)}, api.ErrTwice}, {pool.Shot{Kind: "pass", First: 1}, api.ErrForm}, {pool.Shot{Kind: "play", Pots: make([]pool.Pot, 17)}, api.ErrMany},
	} {
		wantError(t, fmt.Sprintf("Print of %+v", row.x), all(pool.Print(row.x)), row.e)
	}
}

// wantParseError reports another error of Parse, or another number of its word.
func wantParseError(t *testing.T, text string, number int, e api.Errno) {
	t.Helper()
	want(t, fmt.Sprintf("Parse of %.100q", text), all(pool.Parse(text)), all(pool.Shot{}, number, e))
}

func TestWordsThatCannotBeRead(t *testing.T) {
	for _, row := range []struct {
		text   string
		number int
	}{
		// The player and the kind.
		{"", 1}, {"c", 1}, {" ", 1}, {" a play", 1}, {"A play", 1}, {"play a", 1}, {"0 play", 1}, {"ab play", 1}, {"x y z", 1}, {"\ta play", 1},
		{"a", 2}, {"b", 2}, {"a ", 2}, {"a  play", 2}, {"a Play", 2}, {"a miss", 2}, {"a b", 2}, {"a c1/1", 2}, {"a f1", 2}, {"a play\n", 2}, {"a plays f1", 2}, {"a play\tf1", 2},
		// A blank at the end, or two of them.
		{"a play ", 3}, {"a play  f1", 3}, {"a play f1 ", 4}, {"a play p1/1 ", 4}, {"a play p1/1  p2/1", 4}, {"a pass ", 3},
		// The call.
		{"a play c5", 3}, {"a play c5/", 3}, {"a play c/5", 3}, {"a play c", 3}, {"a play c/", 3}, {"a play c0/1", 3}, {"a play c1/0", 3}, {"a play c0/0", 3}, {"a play c01/1", 3}, {"a play c1/01", 3}, {"a play c1/1/1", 3}, {"a play c100/1", 3}, {"a play c1/100", 3}, {"a play c1/1x", 3}, {"a play c+1/1", 3}, {"a play c-1/1", 3}, {"a play c1 /1", 3}, {"a play 1/1", 3}, {"a play C1/1", 3}, {"a play c:/1", 3}, {"a play c1/1 c1/1", 4}, {"a play c١/1", 3}, {"a play c1/.", 3},
		// The ball that was hit.
		{"a play f", 3}, {"a play f0", 3}, {"a play f00", 3}, {"a play f01", 3}, {"a play f100", 3}, {"a play f1/1", 3}, {"a play fx", 3}, {"a play F1", 3}, {"a play 1", 3}, {"a play f1 f1", 4}, {"a play f1 c1/1", 4}, {"a play ff1", 3}, {"a play f1 f2 f3", 4},
		// The cushion.
		{"a play ++", 3}, {"a play + +", 4}, {"a play + f1", 4}, {"a play + c1/1", 4}, {"a play +1", 3}, {"a play -", 3},
		// What was pocketed.
		{"a play p", 3}, {"a play p1", 3}, {"a play p1/", 3}, {"a play p/1", 3}, {"a play p00/1", 3}, {"a play p01/1", 3}, {"a play p1/01", 3}, {"a play p1/100", 3}, {"a play p100/1", 3}, {"a play p1/1 x", 4}, {"a play p1/1 +", 4}, {"a play p1/1 f1", 4}, {"a play p1/1 c1/1", 4}, {"a play p1/1 p2/1 p3", 5}, {"a play p-1/1", 3}, {"a play p1/1/1", 3}, {"a play p18446744073709551617/1", 3},
		// The form of a word comes before the error of the shot.
		{"a play c99/99 f", 4}, {"a pass f1 x", 4}, {"a play p5/7 p5/7 q", 5},
	} {
		wantParseError(t, row.text, row.number, api.ErrSyntax)
	}
}

func TestOtherErrorsOfParse(t *testing.T) {
	for text, e := range map[string]api.Errno{
		"a play c5/2 f5 p5/7": api.ErrRange, "a play c16/1": api.ErrRange, "a play c1/7": api.ErrRange, "a play f16": api.ErrRange, "a play f99": api.ErrRange, "a play p16/1": api.ErrRange, "a play p1/0": api.ErrRange, "a play p0/0": api.ErrRange, "a play p99/99": api.ErrRange,
		"a play p1/1 p1/2": api.ErrTwice, "a pass f1": api.ErrForm, "b concede +": api.ErrForm, "a pass p0/1": api.ErrForm, "a pass c1/1": api.ErrForm, "a play" + strings.Repeat(" p1/1", 17): api.ErrMany,
	} {
		wantParseError(t, text, 0, e)
	}
	long := "a play" + strings.Repeat(" p1/1", 818)
	wantParseError(t, long, 0, api.ErrMany)
	wantParseError(t, strings.Repeat("x", 4096), 1, api.ErrSyntax)
	wantParseError(t, strings.Repeat("x", 4097), 0, api.ErrLong)
	wantParseError(t, "a play"+strings.Repeat(" ", 4091), 0, api.ErrLong)
	wantParseError(t, "a play f"+strings.Repeat("0", 4088), 3, api.ErrSyntax)
}
