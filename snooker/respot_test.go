package snooker_test

import (
	"fmt"
	"strings"
	"testing"

	"baulk/api"
	"baulk/snooker"
)

// Tests of P6.5 (spots).

// place returns a place with a text of two numbers, places those with such texts.
func place(text string) api.Place {
	x, y, _ := strings.Cut(text, " ")
	return api.Place{X: api.Rat(x), Y: api.Rat(y)}
}

func places(texts ...string) []api.Place {
	var list []api.Place
	for _, text := range texts {
		list = append(list, place(text))
	}
	return list
}

// surd returns a surd.
func surd(a, b, d api.Rat) api.Surd { return api.Surd{A: a, B: b, D: d} }

func TestFreeSpots(t *testing.T) {
	spots := places("0 0", "10 0", "20 0", "30 0")
	for _, row := range []struct {
		own    int
		balls  []api.Place
		number int
	}{
		{0, nil, 0}, {3, nil, 3},
		{1, places("0 0", "20 0", "30 0"), 1},
		{1, places("10 0"), 3},
		{1, places("11 0", "31 0"), 2},
		{1, places("9 1", "30 0", "19 0"), 0},
		{3, places("30 1/2"), 2},
		{0, places("1 1", "30 0", "20 0"), 1},
		{0, places("2 0"), 0},  // it touches
		{0, places("0 -2"), 0}, // it touches
		{0, places("199/100 0"), 3},
		{0, places("6/5 8/5"), 0}, // it touches
		{0, places("6/5 159/100"), 3},
		{2, places("20 0", "32 0", "11 1"), 3},
	} {
		what := fmt.Sprintf("Respot of %d with balls at %v", row.own, row.balls)
		want(t, what, all(snooker.Respot(spots, row.balls, row.own, place("1 0"), "2")), all(row.number, surd("0", "0", "0"), api.OK))
		want(t, "CheckRespot: "+what, all(snooker.CheckRespot(spots, row.balls, row.number, place("1 0"), "2", surd("0", "0", "0"))), all(api.OK))
	}
}

func TestWaysOut(t *testing.T) {
	for _, row := range []struct {
		name     string
		balls    []api.Place
		along    string
		diameter api.Rat
		t        api.Surd
	}{
		{"the example", places("1 0", "4 0"), "1 0", "2", surd("4", "1", "4")},
		{"one ball", places("1 0"), "1 0", "2", surd("1", "1", "4")},
		{"a ball on the spot", places("0 0"), "1 0", "2", surd("0", "1", "4")},
		{"a ball behind the spot", places("-1 0"), "1 0", "2", surd("-1", "1", "4")},
		{"a ball beside the spot", places("0 1"), "1 0", "2", surd("0", "1", "3")},
		{"a ball far behind the spot", places("-10 0", "1 0"), "1 0", "2", surd("1", "1", "4")},
		{"a ball that ends before the spot", places("-2 0", "1 0"), "1 0", "2", surd("1", "1", "4")},
		{"a ball that is farther away", places("10 0", "1 0"), "1 0", "2", surd("1", "1", "4")},
		{"a ball that is touched", places("5 0", "1 0"), "1 0", "2", surd("1", "1", "4")},
		{"a ball that is nearly touched", places("4999/1000 0", "1 0"), "1 0", "2", surd("4999/1000", "1", "4")},
		{"a ball that is passed", places("3 2", "1 0"), "1 0", "2", surd("1", "1", "4")},
		{"a ball that is nearly passed", places("3 199/100", "1 0"), "1 0", "2", surd("3", "1", "399/10000")},
		{"a chain", places("7 0", "4 0", "1 0", "10 0"), "1 0", "2", surd("10", "1", "4")},
		{"a ball that is left before another one", places("1 0", "2 0"), "1 0", "2", surd("2", "1", "4")},
		{"equal ways out", places("1 3", "2 4", "0 0"), "1 0", "5", surd("1", "1", "16")},
		{"equal ways out in another order", places("2 4", "1 3", "0 0"), "1 0", "5", surd("2", "1", "9")},
		{"equal ways out after an earlier one", places("-3 0", "0 0", "1 3", "2 4"), "1 0", "5", surd("0", "1", "25")},
		{"a shorter direction", places("1 0"), "1/2 0", "2", surd("2", "4", "1")},
		{"an oblique direction", places("3 4"), "3 4", "6", surd("1", "1/25", "900")},
		{"an oblique direction with fractions", places("1/2 0"), "3/5 -4/5", "3/2", surd("3/10", "1", "209/100")},
		{"the other direction", places("1 0", "-5/2 0"), "-1 0", "2", surd("5/2", "1", "4")},
	} {
		spots := places("0 0")
		want(t, row.name, all(snooker.Respot(spots, row.balls, 0, place(row.along), row.diameter)), all(0, row.t, api.OK))
		want(t, "CheckRespot: "+row.name, all(snooker.CheckRespot(spots, row.balls, 0, place(row.along), row.diameter, row.t)), all(api.OK))
	}
	// The spots are all taken, and the own one, which is not the first one, is away from 0, 0.
	spots := places("5 5", "20 1/3", "2 2")
	balls := places("5 6", "2 3", "20 4/3")
	want(t, "another spot", all(snooker.Respot(spots, balls, 1, place("0 1"), "2")), all(1, surd("1", "1", "4"), api.OK))
	want(t, "the first spot", all(snooker.Respot(spots, balls, 0, place("0 1"), "2")), all(0, surd("1", "1", "4"), api.OK))
	want(t, "the last spot", all(snooker.Respot(spots, balls, 2, place("1 0"), "2")), all(2, surd("0", "1", "3"), api.OK))
}

func TestCheckRespot(t *testing.T) {
	spots, balls := places("20 0", "0 0"), places("1 0", "4 0", "20 1")
	for _, row := range []struct {
		spot int
		far  api.Surd
		e    api.Errno
	}{
		{1, surd("6", "0", "0"), api.OK},
		{1, surd("4", "1", "4"), api.OK},
		{1, surd("5", "1/7", "49"), api.OK},
		{1, surd("599/100", "0", "0"), api.ErrOverlap},
		{1, surd("3", "1", "8"), api.ErrOverlap},
		{1, surd("3", "1", "9"), api.OK},
		{1, surd("3", "1/2", "36"), api.OK},
		{1, surd("3", "1/2", "143/4"), api.ErrOverlap},
		{1, surd("9", "-1", "9"), api.OK},
		{1, surd("9", "-1", "10"), api.ErrOverlap},
		{1, surd("0", "0", "0"), api.ErrOverlap},
		{1, surd("0", "0", "7"), api.ErrOverlap},
		{1, surd("3", "0", "5"), api.ErrOverlap},
		{1, surd("1000", "0", "0"), api.OK},
		{1, surd("20", "0", "0"), api.ErrOverlap},
		{1, surd("20", "1", "3"), api.OK},
		{1, surd("20", "-1", "3"), api.OK},
		{1, surd("20", "1", "299/100"), api.ErrOverlap},
		{0, surd("0", "1", "3"), api.OK},
		{0, surd("0", "1", "2"), api.ErrOverlap},
		{0, surd("2", "-1", "4"), api.ErrOverlap},
		{1, surd("2", "-1", "5"), api.ErrRange},
		{1, surd("-1/100", "0", "0"), api.ErrRange},
		{1, surd("-3", "1", "8"), api.ErrRange},
		{1, surd("1", "1", "-1"), api.ErrRange},
		{1, surd("1", "1", ""), api.ErrForm},
		{1, surd("2/2", "1", "-1"), api.ErrForm},
	} {
		what := fmt.Sprintf("CheckRespot of %d at %v", row.spot, row.far)
		want(t, what, all(snooker.CheckRespot(spots, balls, row.spot, place("1 0"), "2", row.far)), all(row.e))
		// With half the direction all ways are twice as long.
		twice := row.far
		twice.A, twice.B = doubled(row.far.A), doubled(row.far.B)
		if row.e == api.OK || row.e == api.ErrOverlap {
			want(t, what+", of half the direction", all(snooker.CheckRespot(spots, balls, row.spot, place("1/2 0"), "2", twice)), all(row.e))
		}
	}
	want(t, "no balls", all(snooker.CheckRespot(spots, nil, 0, place("1 0"), "2", surd("0", "0", "0"))), all(api.OK))
}

func TestErrorsOfRespot(t *testing.T) {
	many := func(n int) []api.Place { return places(strings.Split(strings.Repeat("1 0,", n-1)+"1 0", ",")...) }
	long := strings.Repeat("1", 601)
	for _, row := range []struct {
		name         string
		spots, balls []api.Place
		own          int
		along        string
		diameter     api.Rat
		e            api.Errno
	}{
		{"no spots", nil, many(25), 9, "x", "x", api.ErrEmpty},
		{"seven spots", many(7), places("x 0"), 9, "x", "x", api.ErrMany},
		{"25 balls", places("x 0"), many(25), 9, "x", "x", api.ErrMany},
		{"a spot that is none", places("1 1", "1 01"), places(long + " 0"), 9, "x", "x", api.ErrForm},
		{"a spot that is too large", places("1 "+long, "x 0"), places("x 0"), 9, "x", "x", api.ErrLarge},
		{"a ball that is none", places("1 1"), places("1 1", "2/2 0", long+" 0"), 9, "x", "x", api.ErrForm},
		{"a ball that is too large", places("1 1"), places("1 1", long+" x"), 9, "x", "x", api.ErrLarge},
		{"a spot that is not there", places("1 1", "2 2"), nil, 2, "x", "x", api.ErrUnknown},
		{"a spot below 0", places("1 1", "2 2"), nil, -1, "x", "x", api.ErrUnknown},
		{"a direction that is none", places("1 1"), nil, 0, "0 x", "x", api.ErrForm},
		{"a direction that is too large", places("1 1"), nil, 0, long + " 0", "x", api.ErrLarge},
		{"no direction", places("1 1"), nil, 0, "0 0", "x", api.ErrZero},
		{"a diameter that is none", places("1 1"), nil, 0, "0 1", "-0", api.ErrForm},
		{"a diameter that is too large", places("1 1"), nil, 0, "0 1", api.Rat(long), api.ErrLarge},
		{"the diameter 0", places("1 1"), nil, 0, "0 1", "0", api.ErrRange},
		{"a diameter below 0", places("1 1"), nil, 0, "1 0", "-1/2", api.ErrRange},
		{"six spots and 24 balls", many(6), many(24), 5, "1 0", "2", api.OK},
	} {
		along := place(row.along)
		got := all(snooker.Respot(row.spots, row.balls, row.own, along, row.diameter))
		wantError(t, "Respot with "+row.name, got, row.e)
		far := surd("x", "x", "x")
		if row.e == api.OK {
			far = surd("2", "0", "0")
		}
		want(t, "CheckRespot with "+row.name, all(snooker.CheckRespot(row.spots, row.balls, row.own, along, row.diameter, far)), all(row.e))
	}
}

// digits returns a number of n digits.
func digits(n int) string { return "1" + strings.Repeat("0", n-1) }

func TestLargeNumbersOfRespot(t *testing.T) {
	for _, row := range []struct {
		name        string
		ball, along string
		diameter    api.Rat
		t           api.Surd
		e           api.Errno
	}{
		{"a root of 599 digits", "0 0", "1 0", api.Rat(digits(300)), surd("0", "1", api.Rat(digits(599))), api.OK},
		{"a root of 601 digits", "0 0", "1 0", api.Rat(digits(301)), surd("", "", ""), api.ErrLarge},
		{"a ball at 600 digits", digits(600) + " 0", "1 0", "2", surd("0", "0", "0"), api.OK},
		{"a ball that is touched at 600 digits", digits(600) + " 0", "1 0", api.Rat(digits(600)), surd("0", "0", "0"), api.OK},
		{"a direction of 300 digits", "1 0", digits(300) + " 0", "2", surd("1/"+api.Rat(digits(300)), "1/"+api.Rat(digits(599)), "4"+api.Rat(digits(599))[1:]), api.OK},
		{"a direction of 301 digits", "1 0", digits(301) + " 0", "2", surd("", "", ""), api.ErrLarge},
		{"a direction in parts of 300 digits", "1 0", "1/" + digits(300) + " 0", "2", surd(api.Rat(digits(300)), api.Rat(digits(599)), "1/25"+api.Rat(digits(597))[1:]), api.OK},
		{"a direction in parts of 301 digits", "1 0", "1/" + digits(301) + " 0", "2", surd("", "", ""), api.ErrLarge},
		{"A alone is of 600 digits", digits(350) + " 0", "1/" + digits(251) + " 0", api.Rat(digits(400)), surd(api.Rat(digits(600)), api.Rat(digits(501)), api.Rat(digits(299))), api.OK},
		{"A alone is too large", digits(351) + " 0", "1/" + digits(251) + " 0", api.Rat(digits(400)), surd("", "", ""), api.ErrLarge},
		{"B alone is too large", "1 0", "1/" + digits(301) + " 0", api.Rat(digits(301)), surd("", "", ""), api.ErrLarge},
		{"a free spot beside large numbers", "3/" + digits(600) + " 1", "1 -1/" + digits(600), "1/" + api.Rat(digits(600)), surd("0", "0", "0"), api.OK},
	} {
		want(t, row.name, all(snooker.Respot(places("0 0"), places(row.ball), 0, place(row.along), row.diameter)), all(0, row.t, row.e))
	}
}
