package table_test

import (
	"math"
	"reflect"
	"slices"
	"strings"
	"testing"

	"baulk/api"
	"baulk/table"
)

// Tests of P1: every function terminates and never panics, what stands beside an error is the zero value, and arguments
// and results share no memory.

// oddTables returns tables of any form.
func oddTables() []table.Table {
	far := points(math.MinInt, math.MaxInt, math.MaxInt, math.MinInt, math.MaxInt, math.MaxInt)
	list := []table.Table{{}, example(), lopsided(), {Corners: far, Radius: math.MinInt}, {Corners: make([]api.Point, 12), Radius: 1}, {Corners: points(0, 0, 1, 0, 0, 1), Radius: math.MaxInt}}
	for _, p := range []table.Pocket{{}, pocket("p", math.MinInt, "0", "1"), pocket("p", 1, "-", "/"), pocket("p", 1, large(), "1/0"), pocket("p", 1, "1/"+nines(600), "1")} {
		list = append(list, withPockets(p))
	}
	for _, s := range []table.Spot{{}, spot("s", "", "1"), spot("s", "1", large()), spot("s", "1/"+nines(600), "1/"+ten(599)), spot(strings.Repeat("s", 100000), "0", "0")} {
		list = append(list, withSpots(s))
	}
	return list
}

// zeroBesideError reports a result beside an error; lists may be empty.
func zeroBesideError[T any](t *testing.T, what string, value T, e api.Errno) {
	t.Helper()
	v := reflect.ValueOf(value)
	if e != api.OK && !v.IsZero() && !(v.Kind() == reflect.Slice && v.Len() == 0) {
		t.Errorf("%s: %v beside the error %d", what, value, e)
	}
}

func TestTablesOfAnyForm(t *testing.T) {
	texts := []api.Rat{"", "0", "1/2", "1", "-1", "x", "1/0", nines(600), "1/" + nines(600), large()}
	for _, on := range oddTables() {
		area, e := table.Area(on)
		zeroBesideError(t, "Area", area, e)
		normal, e := table.Normal(on)
		zeroBesideError(t, "Normal", normal, e)
		printed, e := table.Print(on)
		zeroBesideError(t, "Print", printed, e)
		for _, other := range oddTables() {
			alike, e := table.Alike(on, other)
			zeroBesideError(t, "Alike", alike, e)
		}
		for i, a := range texts {
			b := texts[(i*7+3)%len(texts)]
			n, e := table.On(on, place(a, b))
			zeroBesideError(t, "On", n, e)
			f := edgeOf(on, place(a, b))
			zeroBesideError(t, "Edge", f.value, f.err)
			for _, edge := range []int{math.MinInt, -1, 0, 3, 4, math.MaxInt} {
				p, e := table.At(on, edge, a)
				zeroBesideError(t, "At", p, e)
				name, e := table.Pocketed(on, edge, a)
				zeroBesideError(t, "Pocketed", name, e)
				moved, e := table.Changed(on, move(i%2 == 0, edge, i*edge, edge))
				zeroBesideError(t, "Changed", moved, e)
				places, e := table.Rack(on, "foot", "triangle", [2]int{i, edge})
				zeroBesideError(t, "Rack", places, e)
			}
		}
	}
}

func TestBallsOfAnyForm(t *testing.T) {
	texts := []api.Rat{"", "0", "1/2", "-0", nines(600), "1/" + nines(600), large()}
	lists := [][]table.Ball{nil, {}, exampleBalls(), make([]table.Ball, 3), make([]table.Ball, 100000)}
	for _, a := range texts {
		lists = append(lists, []table.Ball{ball("a", a, "0")}, []table.Ball{ball("cue", "0", "0"), ball("b", "100", a)})
	}
	for _, on := range oddTables() {
		for i, l := range lists {
			step := place(texts[i%7], texts[i*3%7])
			free, e := table.Free(on, l, step)
			zeroBesideError(t, "Free", free, e)
			p, e := table.Spotted(on, l, "foot", step)
			zeroBesideError(t, "Spotted", p, e)
			n := nearestOf(on, l)
			zeroBesideError(t, "Nearest", n.value, n.err)
			pairs, e := table.Touching(on, l)
			zeroBesideError(t, "Touching", pairs, e)
			carried, e := table.Carried(on, l, move(true, i, i, -i))
			zeroBesideError(t, "Carried", carried, e)
			printed, e := table.PrintBalls(on, l)
			zeroBesideError(t, "PrintBalls", printed, e)
		}
	}
}

func TestTextsOfAnyForm(t *testing.T) {
	for _, s := range []string{"", "\n", " ", " \n", "\x00\n", "\xff\xfe\n", "radius\n", "radius 1", "ball\n", "ball a\n", strings.Repeat("\n", 4096), strings.Repeat(" ", 4095) + "\n", strings.Repeat("radius 1\n", 99),
		"radius " + strings.Repeat("9", 4000) + "\n", exampleText + "ball a 1 1\n"} {
		for i := range len(s) {
			if i > 200 {
				break
			}
			table.Parse(s[i:])
			table.Parse(s[:i] + "\n")
			table.ParseBalls(example(), s[i:])
		}
		got := parsed(s)
		zeroBesideError(t, "Parse", got.value.table, got.err)
		balls, _, e := table.ParseBalls(example(), s)
		zeroBesideError(t, "ParseBalls", balls, e)
	}
}

// spoiled changes everything that a table holds.
func spoiled(t table.Table) {
	for i := range t.Corners {
		t.Corners[i] = api.Point{X: -1, Y: -1}
	}
	clear(t.Pockets)
	clear(t.Spots)
}

func TestMemory(t *testing.T) {
	m := move(false, 0, 0, 0)
	for _, f := range []func(table.Table) (table.Table, api.Errno){
		table.Normal,
		func(on table.Table) (table.Table, api.Errno) { return table.Changed(on, m) },
		func(on table.Table) (table.Table, api.Errno) { return table.Changed(on, move(true, 1, 0, 0)) },
	} {
		for _, on := range []func() table.Table{example, lopsided} {
			argument := on()
			first := done(t, "a table", both(f(argument)))
			want(t, "the argument", both(argument, api.OK), on(), api.OK)
			again := done(t, "a table", both(f(argument)))
			spoiled(first)
			want(t, "the argument", both(argument, api.OK), on(), api.OK)
			spoiled(argument)
			want(t, "the result", both(again, api.OK), done(t, "a table", both(f(on()))), api.OK)
		}
	}
	balls := exampleBalls()
	carried := done(t, "Carried", both(table.Carried(example(), balls, m)))
	clear(carried)
	wantList(t, "the balls", both(balls, api.OK), exampleBalls(), api.OK)
	on := lopsided()
	slices.Reverse(on.Pockets)
	before := full(on)
	table.Alike(on, lopsided())
	table.Print(on)
	table.CheckLayout(on, balls)
	table.Pocketed(on, 0, "0")
	want(t, "the argument", both(full(on), api.OK), before, api.OK)
}
