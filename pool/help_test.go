package pool_test

import (
	"fmt"
	"reflect"
	"slices"
	"testing"

	"baulk/api"
	"baulk/pool"
)

// all makes a list of what a function returns.
func all(results ...any) []any { return results }

// want reports results that are not the wanted ones; nil and empty lists look the same.
func want(t *testing.T, what string, got, wanted []any) {
	t.Helper()
	if text(got) != text(wanted) {
		t.Errorf("%s:\ngot  %s\nwant %s", what, short(got), short(wanted))
	}
}

// text returns results as a text, in which strings are quoted.
func text(results []any) string {
	list := slices.Clone(results)
	for i, result := range list {
		if s, ok := result.(string); ok {
			list[i] = fmt.Sprintf("%q", s)
		}
	}
	return fmt.Sprintf("%+v", list)
}

// short returns the beginning of this text.
func short(results []any) string { return fmt.Sprintf("%.2000s", text(results)) }

// wantError reports another error than the wanted one, or results beside an error.
func wantError(t *testing.T, what string, got []any, wanted api.Errno) {
	t.Helper()
	last := len(got) - 1
	if got[last] != wanted {
		t.Errorf("%s: got %s, want the error %d", what, short(got), wanted)
		return
	}
	for _, result := range got[:last] {
		if wanted != api.OK && !isZero(reflect.ValueOf(result)) {
			t.Errorf("%s: %s beside the error %d", what, short(all(result)), wanted)
		}
	}
}

// isZero reports whether a result is its zero value; a slice, also one in a structure, may be empty.
func isZero(v reflect.Value) bool {
	switch v.Kind() {
	case reflect.Slice:
		return v.Len() == 0
	case reflect.Struct:
		for i := range v.NumField() {
			if !isZero(v.Field(i)) {
				return false
			}
		}
		return true
	}
	return v.IsZero()
}

// The rules of the chapter's examples, and others.
func straight(target, fouls int) pool.Rules {
	return pool.Rules{Game: "straight", Target: target, Fouls: fouls}
}

func eight(fouls int) pool.Rules { return pool.Rules{Game: "eight", Fouls: fouls} }

func nine(fouls int) pool.Rules { return pool.Rules{Game: "nine", Fouls: fouls} }

// games returns rules of all games.
func games() []pool.Rules {
	return []pool.Rules{straight(1, 0), straight(12, 3), straight(40, 2), straight(200, 9), eight(0), eight(2), eight(3), nine(0), nine(2), nine(3)}
}

// upTo returns the numbers from 1 to n, without some.
func upTo(n int, without ...int) []int {
	var list []int
	for i := 1; i <= n; i++ {
		if !slices.Contains(without, i) {
			list = append(list, i)
		}
	}
	return list
}

// rack returns the balls of the rack of a game.
func rack(game string) []int {
	if game == "nine" {
		return upTo(9)
	}
	return upTo(15)
}

// begun returns the state at the beginning, playing one in which no break is due, after some changes.
func begun(r pool.Rules) pool.State {
	return pool.State{Break: true, Balls: rack(r.Game), Racks: 1}
}

func playing(r pool.Rules, changes ...func(s *pool.State)) pool.State {
	s := begun(r)
	s.Break = false
	for _, change := range changes {
		change(&s)
	}
	return s
}

// shot returns the shot with a notation.
func shot(t *testing.T, notation string) pool.Shot {
	t.Helper()
	x, _, e := pool.Parse(notation)
	if e != api.OK {
		t.Fatalf("%q cannot be read: %d", notation, e)
	}
	return x
}

// log returns the log with some notations.
func log(t *testing.T, notations ...string) []pool.Shot {
	t.Helper()
	var l []pool.Shot
	for _, notation := range notations {
		l = append(l, shot(t, notation))
	}
	return l
}

// played returns the state after some shots, all of which are legal.
func played(t *testing.T, r pool.Rules, notations ...string) pool.State {
	t.Helper()
	s, refused, e := pool.Replay(r, log(t, notations...))
	if e != api.OK || len(refused) > 0 {
		t.Fatalf("%v: the shots %q are refused: %v, %d", r, notations, refused, e)
	}
	return s
}
