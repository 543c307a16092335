package aim_test

import (
	"fmt"
	"math"
	"math/rand"
	"testing"

	"baulk/aim"
	"baulk/api"
	"baulk/table"
)

// Tests of P4.1 (contacts).

func TestUnits(t *testing.T) {
	for n, wanted := range map[int]api.Place{
		0: at("1", "0"), 1: at("63/65", "16/65"), 4: at("3/5", "4/5"), 7: at("15/113", "112/113"), 8: at("0", "1"), 12: at("-4/5", "3/5"), 16: at("-1", "0"), 20: at("-3/5", "-4/5"), 24: at("0", "-1"), 31: at("112/113", "-15/113"),
	} {
		want(t, fmt.Sprint("Unit ", n), all(aim.Unit(n)), all(wanted, api.OK))
	}
	for n := range 32 {
		want(t, fmt.Sprint("Unit ", n), all(aim.Unit(n)), all(text(unitOf(n)), api.OK))
	}
	for _, n := range []int{-1, 32, math.MinInt, math.MaxInt} {
		wantError(t, fmt.Sprint("Unit ", n), all(aim.Unit(n)), api.ErrUnknown)
	}
}

func TestContacts(t *testing.T) {
	o, x := at("0", "0"), at("1", "0")
	for _, row := range []struct {
		radius                int
		from, direction, ball api.Place
		s                     api.Surd
		e                     api.Errno
	}{
		{30, at("500", "500"), x, at("1000", "500"), surd("500", "-1", "3600"), api.OK},
		{30, at("500", "500"), at("500", "36"), at("1000", "500"), surd("15625/15706", "-1/251296", "580665600"), api.OK},
		{30, at("500", "500"), at("0", "1"), at("1000", "500"), api.Surd{}, api.ErrNone},
		// A ball that would just be touched, and ones that are a little nearer to the way, or behind.
		{30, o, x, at("100", "60"), api.Surd{}, api.ErrNone}, {30, o, x, at("100", "-60"), api.Surd{}, api.ErrNone}, {30, o, x, at("100", "59"), surd("100", "-1", "119"), api.OK}, {30, o, x, at("-100", "0"), api.Surd{}, api.ErrNone},
		{5, o, at("3", "4"), at("22", "46"), api.Surd{}, api.ErrNone}, {5, o, at("3", "4"), at("23", "46"), surd("253/25", "-1/25", "384"), api.OK}, {5, o, at("3", "4"), at("21", "46"), api.Surd{}, api.ErrNone},
		{30, o, x, at("100", "60000000001/1000000000"), api.Surd{}, api.ErrNone}, {1, o, x, at("4", nines(600)), api.Surd{}, api.ErrNone},
		// Balls that touch at the start: s is 0 if the ball goes towards the other one.
		{30, o, x, at("60", "0"), surd("60", "-1", "3600"), api.OK}, {30, o, at("1", "1"), at("60", "0"), surd("30", "-1/2", "3600"), api.OK}, {30, o, at("0", "1"), at("60", "0"), api.Surd{}, api.ErrNone}, {30, o, at("-1", "9"), at("60", "0"), api.Surd{}, api.ErrNone},
		{30, o, x, at("59", "0"), api.Surd{}, api.ErrOverlap}, {30, o, x, at("-59", "0"), api.Surd{}, api.ErrOverlap}, {30, o, x, o, api.Surd{}, api.ErrOverlap}, {30, o, at("0", "1"), at("36", "47"), api.Surd{}, api.ErrOverlap}, {30, o, at("0", "1"), at("36", "48"), surd("48", "-1", "2304"), api.OK},
		{1, at("1/2", "0"), at("2/3", "0"), at("5", "1"), surd("27/4", "-9/4", "4/3"), api.OK}, {1000, o, at("-1/2", "0"), at("-2000", "0"), surd("4000", "-4", "1000000"), api.OK},
	} {
		what := fmt.Sprintf("Contact from %v along %v with %v", row.from, row.direction, row.ball)
		want(t, what, all(aim.Contact(row.radius, row.from, row.direction, row.ball)), all(row.s, row.e))
	}
}

func TestErrorsOfContact(t *testing.T) {
	o, x, far := at("0", "0"), at("1", "0"), at("10", "0")
	bad, twice := at("x", ""), at("1", "2/2")
	for _, row := range []struct {
		radius                int
		from, direction, ball api.Place
		e                     api.Errno
	}{
		{0, bad, bad, bad, api.ErrRange}, {-1, bad, bad, bad, api.ErrRange}, {1001, bad, bad, bad, api.ErrRange}, {math.MinInt, o, x, far, api.ErrRange}, {math.MaxInt, o, x, far, api.ErrRange},
		{1, bad, o, at(large(), "0"), api.ErrForm}, {1, at("0", large()), o, bad, api.ErrLarge}, {1, o, twice, bad, api.ErrForm}, {1, o, at(large(), "0"), bad, api.ErrLarge}, {1, o, o, bad, api.ErrZero},
		{1, o, x, bad, api.ErrForm}, {1, o, x, twice, api.ErrForm}, {1, o, x, at("1", large()), api.ErrLarge},
	} {
		wantError(t, "Contact", all(aim.Contact(row.radius, row.from, row.direction, row.ball)), row.e)
	}
	// The squares of the direction have 599 and 601 digits; places may have as many as they like if they are near.
	want(t, "Contact", all(aim.Contact(1, o, at(ten(299), "0"), at("4", "0"))), all(surd("1/25"+ten(297)[1:], "-1/"+ten(598), "4"+ten(598)[1:]), api.OK))
	wantError(t, "Contact", all(aim.Contact(1, o, at(ten(300), "0"), at("4", "0"))), api.ErrLarge)
	want(t, "Contact", all(aim.Contact(1, at(nines(600), "0"), at("-1", "0"), at(nines(599)+"0", "0"))), all(surd("9", "-1", "4"), api.OK))
	wantError(t, "Contact", all(aim.Contact(1, at(nines(600), "0"), at("-1", "0"), at("-2", "0"))), api.ErrLarge)
	wantError(t, "Contact", all(aim.Contact(1, o, at("1/"+ten(301), "0"), at("4", "0"))), api.ErrLarge)
}

func TestExits(t *testing.T) {
	for _, row := range []struct {
		from, direction api.Place
		edge            int
		to              api.Place
	}{
		{at("500", "500"), at("1", "0"), 1, at("2000", "500")}, {at("500", "500"), at("3", "1"), 1, at("2000", "1000")}, {at("500", "500"), at("1/7", "1/21"), 1, at("2000", "1000")}, {at("500", "500"), at("-1", "-1"), 0, at("0", "0")}, {at("500", "500"), at("-1", "1"), 2, at("0", "1000")},
		{at("500", "500"), at("0", "-9"), 0, at("500", "0")}, {at("500", "500"), at("-2", "1"), 3, at("0", "750")}, {at("500", "500"), at("2", "1"), 2, at("1500", "1000")},
		// From an edge, or a corner, the way may end at once; along an edge it does not lead to this one.
		{at("500", "0"), at("1", "-1"), 0, at("500", "0")}, {at("500", "0"), at("1", "0"), 1, at("2000", "0")}, {at("500", "0"), at("-1", "0"), 3, at("0", "0")}, {at("500", "0"), at("1", "1"), 2, at("1500", "1000")}, {at("0", "500"), at("-1", "0"), 3, at("0", "500")},
		{at("0", "0"), at("-1", "-1"), 0, at("0", "0")}, {at("0", "0"), at("-1", "1"), 3, at("0", "0")}, {at("0", "0"), at("1", "-1"), 0, at("0", "0")}, {at("0", "0"), at("0", "1"), 2, at("0", "1000")}, {at("2000", "1000"), at("1", "1"), 1, at("2000", "1000")}, {at("0", "0"), at("2", "1"), 1, at("2000", "1000")},
	} {
		what := fmt.Sprintf("Exit from %v along %v", row.from, row.direction)
		want(t, what, all(aim.Exit(example(), row.from, row.direction)), all(row.edge, row.to, api.OK))
	}
}

func TestErrorsOfExit(t *testing.T) {
	inside, o := at("50", "30"), at("0", "0")
	for e, broken := range brokenTables() {
		wantError(t, "Exit on a broken table", all(aim.Exit(broken, at("", ""), o)), e)
	}
	for p, e := range badPlaces() {
		wantError(t, "Exit", all(aim.Exit(field(), p, o)), e)
		wantError(t, "Exit", all(aim.Exit(field(), inside, p)), e)
		wantError(t, "Exit", all(aim.Exit(field(), at("101", "30"), p)), api.ErrOutside)
	}
	for _, p := range []api.Place{at("-1/"+nines(600), "0"), at("50", "61"), at("101", "60")} {
		wantError(t, "Exit", all(aim.Exit(field(), p, o)), api.ErrOutside)
	}
	wantError(t, "Exit", all(aim.Exit(field(), inside, o)), api.ErrZero)
	wantError(t, "Exit", all(aim.Exit(field(), at("50", "1"), at(nines(600), "1"))), api.ErrLarge)
	want(t, "Exit", all(aim.Exit(field(), at("50", "0"), at(ten(599), "1"))), all(1, at("100", "1/2"+ten(597)[1:]), api.OK))
	want(t, "Exit", all(aim.Exit(field(), inside, at(nines(600), "0"))), all(1, at("100", "30"), api.OK))
	wantError(t, "Exit", all(aim.Exit(field(), inside, at("1/"+nines(600), nines(600)))), api.ErrLarge)
}

// met is a ball that is hit first by the cue ball of a layout, which is its first ball; the name is empty if none is.
type met struct {
	on        table.Table
	balls     []table.Ball
	direction api.Place
	name      string
}

// meetings returns ways on which balls are hit, or just not.
func meetings() []met {
	x, up := at("1", "0"), at("1", "1")
	// At the contact a lies at 8/5 6/5 from the cue ball, b at 6/5 -8/5.
	tied := balls("20", "30", "148/5", "156/5", "146/5", "142/5")
	return []met{
		{example(), layout(), x, "one"}, {example(), layout(), at("500", "36"), "one"}, {example(), layout(), at("0", "1"), ""}, {example(), layout(), at("-1/3", "1"), ""}, {example(), layout(), at("5/2", "1"), "two"},
		{example(), layout(ball("three", "700", "500")), x, "three"}, {example(), layout(ball("three", "300", "500")), x, "one"},
		// Balls that would just be touched, and one that is a little nearer.
		{example(), layout(ball("three", "700", "560")), x, "one"}, {example(), layout(ball("three", "700", "559")), x, "three"}, {example(), layout(ball("three", "700", "440")), x, "one"}, {field(), balls("20", "30", "40", "32"), x, ""},
		// Balls that touch the cue ball at the beginning.
		{example(), layout(ball("three", "440", "500")), x, "one"}, {example(), layout(ball("three", "500", "440")), x, "one"}, {example(), layout(ball("three", "560", "500")), x, "three"}, {example(), layout(ball("three", "536", "452")), x, "three"},
		// Of balls that are met at one time the first one in the list counts.
		{field(), balls("20", "30", "30", "31", "30", "29"), x, "a"}, {field(), balls("20", "30", "30", "29", "30", "31"), x, "a"}, {field(), tied, x, "a"}, {field(), []table.Ball{tied[0], tied[2], tied[1]}, x, "b"},
		{field(), balls("20", "30", "148/5", "156/5", "146000001/5000000", "142/5"), x, "a"}, {field(), balls("20", "30", "148/5", "156/5", "145999999/5000000", "142/5"), x, "b"},
		{field(), balls("20", "30", "40", "30", "30", "63/2"), x, "b"}, {field(), balls("20", "30", "30", "63/2", "29", "59/2"), x, "b"}, {field(), balls("20", "30", "30", "30", "32", "57/2"), x, "a"},
		// A ball that is met just when the way ends is not hit.
		{field(), balls("90", "20", "100", "32"), up, ""}, {field(), balls("90", "20", "100", "63/2"), up, "a"}, {field(), balls("90", "20", "100", "32000001/1000000"), up, ""}, {field(), balls("90", "20", "9999999/100000", "32"), up, ""}, {field(), balls("90", "20", "100", "31999999/1000000"), up, "a"},
		{field(), balls("100", "30", "100", "32"), x, ""}, {field(), balls("100", "30", "100", "32"), up, ""}, {field(), balls("100", "30", "100", "32"), at("0", "1"), "a"}, {field(), balls("100", "30", "98", "30"), at("-1", "0"), "a"},
		{field(), balls("90", "50", "99", "60"), up, "a"}, {field(), balls("98", "58", "100", "60"), up, "a"},
	}
}

func TestFirst(t *testing.T) {
	for _, row := range meetings() {
		what := fmt.Sprintf("First with %v along %v", row.balls, row.direction)
		cue := row.balls[0].Name
		if row.name == "" {
			wantError(t, what, all(aim.First(row.on, row.balls, cue, row.direction)), api.ErrNone)
			wantError(t, "Hit instead of "+what, all(aim.Hit(row.on, row.balls, cue, row.direction)), api.ErrNone)
			continue
		}
		c := collide(t, row.on, row.balls, cue, value(t, row.balls[0].At), value(t, row.direction))
		want(t, what, all(aim.First(row.on, row.balls, cue, row.direction)), all(row.name, c.s.text(), api.OK))
		want(t, "Hit instead of "+what, all(aim.Hit(row.on, row.balls, cue, row.direction)), all(c.place.text(), api.OK))
	}
	x := at("1", "0")
	want(t, "First", all(aim.First(example(), layout(), "cue", x)), all("one", surd("500", "-1", "3600"), api.OK))
	want(t, "Hit", all(aim.Hit(example(), layout(), "cue", x)), all(spot("1000", "-1", "500", "0", "3600"), api.OK))
	want(t, "First", all(aim.First(example(), layout(), "cue", at("500", "36"))), all("one", surd("15625/15706", "-1/251296", "580665600"), api.OK))
	want(t, "First", all(aim.First(example(), layout(), "one", at("0", "1/2"))), all("two", surd("400", "-4", "900"), api.OK))
	want(t, "Hit", all(aim.Hit(example(), layout(), "one", at("0", "1/2"))), all(spot("1000", "0", "700", "-2", "900"), api.OK))
	want(t, "First", all(aim.First(field(), balls("20", "30", "30", "31"), "cue", x)), all("a", surd("10", "-1", "3"), api.OK))
}

// someWays passes on contacts of layouts that are computed literally, with the arguments of each.
func someWays(t *testing.T, seed int64, count int, f func(c collision, on table.Table, l []table.Ball, cue string, d api.Place)) {
	t.Helper()
	r := rand.New(rand.NewSource(seed))
	for range count {
		on := someTable(t, r)
		l := someLayout(t, r, on)
		cue := l[r.Intn(len(l))]
		d := someDirection(t, r, on, l, cue.At)
		f(collide(t, on, l, cue.Name, value(t, cue.At), value(t, d)), on, l, cue.Name, d)
	}
}

func TestFirstAgainstLibrary(t *testing.T) {
	hits, none := 0, 0
	someWays(t, 1, 1200, func(c collision, on table.Table, l []table.Ball, cue string, d api.Place) {
		if c.name == "" {
			none++
			wantError(t, "First", all(aim.First(on, l, cue, d)), api.ErrNone)
			wantError(t, "Hit", all(aim.Hit(on, l, cue, d)), api.ErrNone)
			return
		}
		hits++
		what := fmt.Sprintf("%v: %s in %v along %v", on, cue, l, d)
		want(t, "First on "+what, all(aim.First(on, l, cue, d)), all(c.name, c.s.text(), api.OK))
		want(t, "Hit on "+what, all(aim.Hit(on, l, cue, d)), all(c.place.text(), api.OK))
		from, to := text(placeOf(t, l, cue)), text(placeOf(t, l, c.name))
		want(t, "Contact on "+what, all(aim.Contact(on.Radius, from, d, to)), all(c.s.text(), api.OK))
	})
	if min(hits, none) < 200 {
		t.Errorf("%d balls are hit, %d are not", hits, none)
	}
}

func TestExitsAgainstLibrary(t *testing.T) {
	r := rand.New(rand.NewSource(2))
	corners := 0
	for range 1000 {
		on := someTable(t, r)
		l := someLayout(t, r, on)
		from, d := value(t, l[0].At), value(t, someDirection(t, r, on, l, l[0].At))
		edge, _ := endOf(on, from, realsOf(d))
		start, along := edgeOf(on, edge)
		to := plus(from, over(cross(along, minus(from, start)), cross(d, along)), d)
		want(t, fmt.Sprintf("Exit on %v from %v along %v", on, from, d), all(aim.Exit(on, text(from), text(d))), all(edge, text(to), api.OK))
		if text(to) == text(start) || text(to) == text(plus(start, whole(1), along)) {
			corners++
		}
	}
	if corners < 20 {
		t.Errorf("only %d ways to a corner", corners)
	}
}

// stroke is one of the functions of a table, balls, a cue ball and a direction.
type stroke func(on table.Table, l []table.Ball, cue string, d api.Place) []any

// strokes returns these functions.
func strokes() map[string]stroke {
	return map[string]stroke{
		"First": func(on table.Table, l []table.Ball, cue string, d api.Place) []any {
			return all(aim.First(on, l, cue, d))
		},
		"Hit": func(on table.Table, l []table.Ball, cue string, d api.Place) []any {
			return all(aim.Hit(on, l, cue, d))
		},
		"After": func(on table.Table, l []table.Ball, cue string, d api.Place) []any {
			return all(aim.After(on, l, cue, d))
		},
		"Entry": func(on table.Table, l []table.Ball, cue string, d api.Place) []any {
			return all(aim.Entry(on, l, cue, d))
		},
		"Pots": func(on table.Table, l []table.Ball, cue string, d api.Place) []any {
			return all(aim.Pots(on, l, cue, d))
		},
	}
}

func TestErrorsOfStrokes(t *testing.T) {
	x, o, bad := at("1", "0"), at("0", "0"), at("x", "")
	for what, f := range strokes() {
		for e, broken := range brokenTables() {
			wantError(t, what+" on a broken table", f(broken, make([]table.Ball, 25), "", o), e)
		}
		wantError(t, what, f(example(), make([]table.Ball, 25), "", o), api.ErrMany)
		wantError(t, what, f(example(), layout(ball("three", "559", "500")), "", o), api.ErrOverlap)
		wantError(t, what, f(example(), layout(ball("three", "2001", "0")), "", o), api.ErrOutside)
		for _, cue := range []string{"", "three", "Cue", "one "} {
			wantError(t, what, f(example(), layout(), cue, bad), api.ErrUnknown)
		}
		for p, e := range badPlaces() {
			wantError(t, what, f(example(), layout(), "cue", p), e)
		}
		wantError(t, what, f(example(), layout(), "cue", o), api.ErrZero)
		wantError(t, what, f(example(), layout(), "cue", at("-1", "0")), api.ErrNone)
		wantError(t, what, f(example(), layout()[:1], "cue", x), api.ErrNone)
		wantError(t, what, f(example(), nil, "cue", x), api.ErrUnknown)
		if what != "Pots" {
			wantError(t, what, f(example(), layout(), "cue", at(ten(300), "0")), api.ErrLarge)
		}
	}
	// Pots has no numbers that could be too large.
	for _, d := range []api.Place{at(ten(300), "0"), at(nines(600), "1/"+nines(600)), at(nines(599)+"/"+ten(599), "-1/"+nines(600))} {
		want(t, "Pots", all(aim.Pots(example(), layout(), "cue", d)), all("one", "c", api.OK))
	}
}
