package match_test

import (
	"fmt"
	"math/big"
	"math/rand"
	"reflect"
	"slices"
	"strings"
	"testing"

	"baulk/api"
	"baulk/match"
)

// all makes a list of what a function returns.
func all(results ...any) []any { return results }

// want reports results that are not the wanted ones; nil and empty lists look the same.
func want(t *testing.T, what string, got, wanted []any) {
	t.Helper()
	if text(got) != text(wanted) {
		t.Errorf("%s:\ngot  %s\nwant %s", what, short(got), short(wanted))
	}
}

// text returns results as a text, in which strings are quoted.
func text(results []any) string {
	list := slices.Clone(results)
	for i, result := range list {
		if s, ok := result.(string); ok {
			list[i] = fmt.Sprintf("%q", s)
		}
	}
	return fmt.Sprintf("%+v", list)
}

// short returns the beginning of this text.
func short(results []any) string { return fmt.Sprintf("%.2000s", text(results)) }

// wantError reports another error than the wanted one, or results beside an error.
func wantError(t *testing.T, what string, got []any, wanted api.Errno) {
	t.Helper()
	last := len(got) - 1
	if got[last] != wanted {
		t.Errorf("%s: got %s, want the error %d", what, short(got), wanted)
		return
	}
	for _, result := range got[:last] {
		if wanted != api.OK && !isZero(reflect.ValueOf(result)) {
			t.Errorf("%s: %s beside the error %d", what, short(all(result)), wanted)
		}
	}
}

// isZero reports whether a result is its zero value; a slice, also one in a structure, may be empty.
func isZero(v reflect.Value) bool {
	switch v.Kind() {
	case reflect.Slice:
		return v.Len() == 0
	case reflect.Struct:
		for i := range v.NumField() {
			if !isZero(v.Field(i)) {
				return false
			}
		}
		return true
	}
	return v.IsZero()
}

// pick returns one of some values.
func pick[T any](r *rand.Rand, values ...T) T { return values[r.Intn(len(values))] }

// happens reports one of n possibilities.
func happens(r *rand.Rand, n int) bool { return r.Intn(n) == 0 }

// orders returns the orders of breaks.
func orders() []string { return []string{"alternate", "winner", "loser"} }

// odds returns odds.
func odds(own, other api.Rat) match.Odds { return match.Odds{Own: own, Other: other} }

// race returns a race that the player 0 breaks first.
func race(first, second int, order string) match.Race {
	return match.Race{Need: [2]int{first, second}, Order: order}
}

// example returns the match M of the chapter's examples.
func example() match.Match {
	return match.Match{Players: [2]string{"ann", "ben"}, Sets: 2, Frames: 2, Order: "alternate", Clock: 30, Outs: 1}
}

// entries returns a log by its text: kinds with a player behind each one, and the seconds of a shot behind this one.
func entries(text string) []match.Entry {
	var l []match.Entry
	for _, line := range strings.Split(text, ", ") {
		if line == "" {
			continue
		}
		var e match.Entry
		fmt.Sscan(line, &e.Kind, &e.Player, &e.Value)
		l = append(l, e)
	}
	return l
}

// entry returns the only entry of such a text.
func entry(text string) match.Entry { return entries(text)[0] }

// beginning returns the state at the beginning of a match, after some changes.
func beginning(m match.Match, changes ...func(s *match.State)) match.State {
	s := match.State{Frames: m.Starts, Winner: -1}
	for _, change := range changes {
		change(&s)
	}
	return s
}

// after returns the state after a log, no entry of which is refused.
func after(t *testing.T, m match.Match, text string) match.State {
	t.Helper()
	s, refused, e := match.Replay(m, entries(text))
	if e != api.OK || len(refused) > 0 {
		t.Fatalf("entries of %s are refused: %v, %d", text, refused, e)
	}
	return s
}

// rat reads a number, written writes one.
func rat(x api.Rat) *big.Rat {
	y, _ := new(big.Rat).SetString(string(x))
	return y
}

func written(x *big.Rat) api.Rat { return api.Rat(x.RatString()) }

// digits returns a text of n digits, of which the first one is 1 and the last one is given, with zeros in between.
func digits(n, last int) api.Rat {
	return api.Rat("1" + strings.Repeat("0", n-2) + fmt.Sprint(last))
}

// nines returns the text of n nines.
func nines(n int) api.Rat { return api.Rat(strings.Repeat("9", n)) }
