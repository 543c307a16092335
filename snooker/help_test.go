package snooker_test

import (
	"fmt"
	"reflect"
	"slices"
	"strings"
	"testing"

	"baulk/api"
	"baulk/number"
	"baulk/snooker"
)

// all makes a list of what a function returns.
func all(results ...any) []any { return results }

// want reports results that are not the wanted ones; nil and empty lists look the same.
func want(t *testing.T, what string, got, wanted []any) {
	t.Helper()
	if text(got) != text(wanted) {
		t.Errorf("%s:\ngot  %s\nwant %s", what, short(got), short(wanted))
	}
}

// text returns results as a text, in which strings are quoted.
func text(results []any) string {
	list := slices.Clone(results)
	for i, result := range list {
		if s, ok := result.(string); ok {
			list[i] = fmt.Sprintf("%q", s)
		}
	}
	return fmt.Sprintf("%+v", list)
}

// short returns the beginning of this text.
func short(results []any) string { return fmt.Sprintf("%.2000s", text(results)) }

// wantError reports another error than the wanted one, or results beside an error.
func wantError(t *testing.T, what string, got []any, wanted api.Errno) {
	t.Helper()
	last := len(got) - 1
	if got[last] != wanted {
		t.Errorf("%s: got %s, want the error %d", what, short(got), wanted)
		return
	}
	for _, result := range got[:last] {
		if wanted != api.OK && !isZero(reflect.ValueOf(result)) {
			t.Errorf("%s: %s beside the error %d", what, short(all(result)), wanted)
		}
	}
}

// isZero reports whether a result is its zero value; a slice, also one in a structure, may be empty.
func isZero(v reflect.Value) bool {
	switch v.Kind() {
	case reflect.Slice:
		return v.Len() == 0
	case reflect.Struct:
		for i := range v.NumField() {
			if !isZero(v.Field(i)) {
				return false
			}
		}
		return true
	}
	return v.IsZero()
}

// The three games.
func reds(n int) snooker.Game { return snooker.Game{Kind: "snooker", Reds: n} }

func billiards(target int) snooker.Game { return snooker.Game{Kind: "billiards", Target: target} }

func carom(target, turns int) snooker.Game {
	return snooker.Game{Kind: "carom", Target: target, Turns: turns}
}

// games returns games of all kinds.
func games() []snooker.Game {
	return []snooker.Game{
		reds(1), reds(2), reds(6), reds(15), billiards(1), billiards(20), billiards(1000), carom(1, 1), carom(2, 10), carom(5, 3), carom(1000, 100),
	}
}

// shot returns a shot: what is called, and the names of the balls that are hit and pocketed, with blanks between them.
func shot(called, hits, pots string) snooker.Entry {
	return snooker.Entry{Kind: "shot", Called: called, Hits: strings.Fields(hits), Pots: strings.Fields(pots)}
}

// cannon returns a shot of carom.
func cannon(hits string, cushions int) snooker.Entry {
	return snooker.Entry{Kind: "shot", Hits: strings.Fields(hits), Cushions: cushions}
}

// act returns an entry that is no shot.
func act(kind string) snooker.Entry { return snooker.Entry{Kind: kind} }

// colours returns the names of the balls of snooker with a value from a least one to a greatest one.
func colours(least, greatest int) []string {
	return []string{"white", "red", "yellow", "green", "brown", "blue", "pink", "black"}[least : greatest+1]
}

// state returns a state in a phase, after some changes; it has a red in the phase red, and the colour 2 in the phase final.
func state(phase string, changes ...func(s *snooker.State)) snooker.State {
	s := snooker.State{Phase: phase, Winner: -1}
	switch phase {
	case "red":
		s.Reds = 1
	case "final":
		s.Colour = 2
	}
	for _, change := range changes {
		change(&s)
	}
	return s
}

// played returns the state after some entries, all of which are legal.
func played(t *testing.T, g snooker.Game, l ...snooker.Entry) snooker.State {
	t.Helper()
	s, refused, e := snooker.Replay(g, l)
	if e != api.OK || len(refused) > 0 {
		t.Fatalf("%v: the entries %v are refused: %v, %d", g, l, refused, e)
	}
	return s
}

// doubled returns twice a number.
func doubled(x api.Rat) api.Rat {
	y, _ := number.Add(x, x)
	return y
}
