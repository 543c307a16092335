package table_test

import (
	"strings"
	"testing"

	"baulk/api"
	"baulk/table"
)

// Tests of P2.4 (texts).

const exampleText = `radius 30
corner 0 0
corner 2000 0
corner 2000 1000
corner 0 1000
pocket a 0 0 1/20
pocket b 2 19/20 1
spot foot 1500 500
spot head 500 500
`

const triangleText = "radius 1\ncorner -7 0\ncorner 8 -9\ncorner 0 5\n"

func TestPrint(t *testing.T) {
	want(t, "Print", both(table.Print(example())), exampleText, api.OK)
	want(t, "Print", both(table.Print(table.Table{Corners: points(-7, 0, 8, -9, 0, 5), Radius: 1})), triangleText, api.OK)
	for _, broken := range brokenTables() {
		want(t, "Print", both(table.Print(broken.value)), "", broken.err)
		want(t, "PrintBalls", both(table.PrintBalls(broken.value, nil)), "", broken.err)
	}
	balls := "ball cue 500 500\nball one 1500 500\nball two 1560 500\n"
	want(t, "PrintBalls", both(table.PrintBalls(example(), exampleBalls())), balls, api.OK)
	want(t, "PrintBalls", both(table.PrintBalls(example(), []table.Ball{ball("a", "1/3", "2/7")})), "ball a 1/3 2/7\n", api.OK)
	want(t, "PrintBalls of none", both(table.PrintBalls(example(), nil)), "", api.OK)
	want(t, "PrintBalls", both(table.PrintBalls(example(), []table.Ball{ball("a", "0", "0"), ball("b", "1", "0")})), "", api.ErrOverlap)
}

// tableParsed is a table with the line of the first error.
type tableParsed struct {
	table table.Table
	line  int
}

func parsed(s string) pair[tableParsed] {
	t, line, e := table.Parse(s)
	return both(tableParsed{t, line}, e)
}

// ballsParsed is parsed for balls.
type ballsParsed struct {
	balls []table.Ball
	line  int
}

func parsedBalls(t table.Table, s string) pair[ballsParsed] {
	balls, line, e := table.ParseBalls(t, s)
	return both(ballsParsed{append([]table.Ball{}, balls...), line}, e)
}

func TestParse(t *testing.T) {
	want(t, "Parse", parsed(exampleText), tableParsed{table: example()}, api.OK)
	triangle := table.Table{Corners: points(-7, 0, 8, -9, 0, 5), Radius: 1}
	got, line, e := table.Parse(triangleText)
	want(t, "Parse", both(tableParsed{full(got), line}, e), tableParsed{table: full(triangle)}, api.OK)
	spots := triangleText + "spot a 1/3 -1/7\n"
	triangle.Spots = []table.Spot{spot("a", "1/3", "-1/7")}
	got, line, e = table.Parse(spots)
	want(t, "Parse without pockets", both(tableParsed{full(got), line}, e), tableParsed{table: full(triangle)}, api.OK)
}

func TestErrorsOfParse(t *testing.T) {
	rest := strings.TrimPrefix(triangleText, "radius 1\n")
	for _, row := range []struct {
		text string
		line int
		e    api.Errno
	}{
		{"", 0, api.ErrTorn}, {"radius 30", 0, api.ErrTorn}, {"x", 0, api.ErrTorn}, {exampleText[:len(exampleText)-1], 0, api.ErrTorn}, {triangleText + "spot a 0 0", 0, api.ErrTorn},
		{triangleText + "x\ny", 0, api.ErrTorn}, {strings.Repeat("x", 4097), 0, api.ErrLong}, {strings.Repeat("x\n", 2049), 0, api.ErrLong}, {strings.Repeat("x", 4096), 0, api.ErrTorn},
		{strings.Repeat("x\n", 2048), 1, api.ErrSyntax},
		// Lines that do not have their form.
		{"\n", 1, api.ErrSyntax}, {"\n" + triangleText, 1, api.ErrSyntax}, {triangleText + "\n", 5, api.ErrSyntax}, {" " + triangleText, 1, api.ErrSyntax},
		{"radius\n" + rest, 1, api.ErrSyntax}, {"radius \n" + rest, 1, api.ErrSyntax}, {"radius  1\n" + rest, 1, api.ErrSyntax}, {"radius 1 \n" + rest, 1, api.ErrSyntax}, {"radius 1 1\n" + rest, 1, api.ErrSyntax},
		{"radius\t1\n" + rest, 1, api.ErrSyntax}, {"Radius 1\n" + rest, 1, api.ErrSyntax}, {"radius 1\r\n" + rest, 1, api.ErrSyntax}, {"radius x\n" + rest, 1, api.ErrSyntax},
		{"radius 01\n" + rest, 1, api.ErrSyntax}, {"radius +1\n" + rest, 1, api.ErrSyntax}, {"radius -0\n" + rest, 1, api.ErrSyntax}, {"radius 1/1\n" + rest, 1, api.ErrSyntax}, {"radius 1_0\n" + rest, 1, api.ErrSyntax},
		{"radius 1000000000\n" + rest, 1, api.ErrSyntax}, {"radius -1000000000\n" + rest, 1, api.ErrSyntax}, {"radius 99999999999999999999\n" + rest, 1, api.ErrSyntax}, {"radius -\n" + rest, 1, api.ErrSyntax},
		{triangleText + "corner 0\n", 5, api.ErrSyntax}, {triangleText + "corner 0 0 0\n", 5, api.ErrSyntax}, {triangleText + "corner 0 00\n", 5, api.ErrSyntax}, {triangleText + "corner 1/2 0\n", 5, api.ErrSyntax},
		{triangleText + "corner 1000000000 0\n", 5, api.ErrSyntax}, {triangleText + "corner 0 -1000000000\n", 5, api.ErrSyntax}, {triangleText + "corner x 0\ncorner y 0\n", 5, api.ErrSyntax},
		{triangleText + "pocket a 0 0\n", 5, api.ErrSyntax}, {triangleText + "pocket a 0 0 0 0\n", 5, api.ErrSyntax}, {triangleText + "pocket a x 0 0\n", 5, api.ErrSyntax}, {triangleText + "pocket a 01 0 0\n", 5, api.ErrSyntax},
		{triangleText + "pocket  0 0 0\n", 5, api.ErrSyntax}, {triangleText + "pocket a 0  1\n", 5, api.ErrSyntax}, {triangleText + "pocket a 1000000000 0 0\n", 5, api.ErrSyntax},
		{triangleText + "spot a 0\n", 5, api.ErrSyntax}, {triangleText + "spot a 0 0 0\n", 5, api.ErrSyntax}, {triangleText + "spot a  0\n", 5, api.ErrSyntax}, {triangleText + "spot a 0 0 \n", 5, api.ErrSyntax},
		{triangleText + "ball a 0 0\n", 5, api.ErrSyntax}, {triangleText + "hole a 0 0\n", 5, api.ErrSyntax}, {triangleText + "spot\n", 5, api.ErrSyntax},
		// Lines that stand in a wrong place.
		{"radius 1\n" + triangleText, 2, api.ErrSyntax}, {triangleText + "radius 1\n", 5, api.ErrSyntax}, {rest + "radius 1\n", 4, api.ErrSyntax}, {triangleText + "spot a 0 0\ncorner -6 5\n", 6, api.ErrSyntax},
		{triangleText + "pocket a 0 0 0\ncorner -6 5\n", 6, api.ErrSyntax}, {triangleText + "spot a 0 0\npocket a 0 0 0\n", 6, api.ErrSyntax}, {triangleText + "spot a 0 0\nradius 1\n", 6, api.ErrSyntax},
		{"corner -7 0\nradius 1\ncorner 8 -9\ncorner 0 5\n", 2, api.ErrSyntax},
		// Without a radius the number is that after the last line, unless a line before does not have its form.
		{rest, 4, api.ErrSyntax}, {rest + "corner 5 x\n", 4, api.ErrSyntax}, {"corner 0 0\n", 2, api.ErrSyntax}, {strings.TrimPrefix(exampleText, "radius 30\n"), 9, api.ErrSyntax}, {rest + "spot a b c\nx\n", 5, api.ErrSyntax},
		{"spot a 0 0\n", 2, api.ErrSyntax},
		// The errors of tables.
		{"radius 1\n", 0, api.ErrShape}, {"radius 999999999\n" + rest, 0, api.ErrRange}, {"radius -999999999\n" + rest, 0, api.ErrRange}, {"radius 0\n" + rest, 0, api.ErrRange},
		{triangleText + "corner 999999999 -999999999\n", 0, api.ErrRange}, {triangleText + "corner 0 0\n", 0, api.ErrConvex}, {triangleText + strings.Repeat("corner 0 0\n", 10), 0, api.ErrMany},
		{triangleText + "pocket 1 x y z\n", 5, api.ErrSyntax}, {triangleText + "pocket 1 -5 y z\n", 0, api.ErrName}, {triangleText + "pocket a 999999999 y z\n", 0, api.ErrUnknown}, {triangleText + "pocket a 0 y z\n", 0, api.ErrForm},
		{triangleText + "pocket a 0 0 2/4\n", 0, api.ErrForm}, {triangleText + "pocket a 0 1 0\n", 0, api.ErrOrder}, {triangleText + "spot ä 0 0\n", 0, api.ErrName}, {triangleText + "spot a 00 0\n", 0, api.ErrForm},
		{triangleText + "spot a 0 0\r\n", 0, api.ErrForm}, {triangleText + "spot a 0 6\n", 0, api.ErrOutside}, {triangleText + "spot a 0 0\nspot a 0 0\n", 0, api.ErrTwice},
		{"radius 30\ncorner 0 1000\ncorner 2000 1000\ncorner 2000 0\ncorner 0 0\n", 0, api.ErrConvex},
	} {
		want(t, "Parse of "+row.text, parsed(row.text), tableParsed{line: row.line}, row.e)
	}
}

func TestParseBalls(t *testing.T) {
	text := "ball cue 500 500\nball one 1500 500\nball two 1560 500\n"
	want(t, "ParseBalls", parsedBalls(example(), text), ballsParsed{balls: exampleBalls()}, api.OK)
	none := []table.Ball{}
	want(t, "ParseBalls of none", parsedBalls(example(), ""), ballsParsed{balls: none}, api.OK)
	for _, row := range []struct {
		text string
		line int
		e    api.Errno
	}{
		{"ball a 1 1", 0, api.ErrTorn}, {text[:len(text)-1], 0, api.ErrTorn}, {strings.Repeat("x", 4097), 0, api.ErrLong}, {strings.Repeat("x", 4096), 0, api.ErrTorn},
		{"\n", 1, api.ErrSyntax}, {text + "\n", 4, api.ErrSyntax}, {"ball a 1\n", 1, api.ErrSyntax}, {"ball a 1 1 1\n", 1, api.ErrSyntax}, {"ball a  1\n", 1, api.ErrSyntax}, {"ball  1 1\n", 1, api.ErrSyntax},
		{"ball\n", 1, api.ErrSyntax}, {"Ball a 1 1\n", 1, api.ErrSyntax}, {" ball a 1 1\n", 1, api.ErrSyntax}, {"ball a 1 1 \n", 1, api.ErrSyntax}, {text + "spot a 1 1\n", 4, api.ErrSyntax},
		{text + "corner 1 1\nball\n", 4, api.ErrSyntax}, {"ball a x y\nball\n", 2, api.ErrSyntax},
		{"ball 1 x y\n", 0, api.ErrName}, {text + "ball cue x y\n", 0, api.ErrTwice}, {"ball a x y\n", 0, api.ErrForm}, {"ball a -1 0\n", 0, api.ErrOutside}, {text + "ball a 501 501\n", 0, api.ErrOverlap},
		{strings.Repeat("ball a x y\n", 25), 0, api.ErrMany},
	} {
		want(t, "ParseBalls of "+row.text, parsedBalls(example(), row.text), ballsParsed{balls: none, line: row.line}, row.e)
	}
	for _, broken := range brokenTables() {
		want(t, "ParseBalls", parsedBalls(broken.value, "x"), ballsParsed{balls: none}, broken.err)
		want(t, "ParseBalls", parsedBalls(broken.value, strings.Repeat("x", 4097)), ballsParsed{balls: none}, broken.err)
	}
}

// A text with as many bytes as there may be is printed and read, one with one more is not.
func TestLongTexts(t *testing.T) {
	long := table.Table{Corners: points(-7, 0, 8, -9, 0, 5), Radius: 1}
	numbers := api.Rat("1/" + nines(590))
	for _, name := range []string{"a", "b", "c"} {
		long.Spots = append(long.Spots, spot(name, numbers, numbers))
	}
	start := done(t, "Print", both(table.Print(long)))
	left := api.MaxText - len(start) - len("spot d 1/ 0\n")
	for _, row := range []struct {
		digits int
		e      api.Errno
	}{{left, api.OK}, {left + 1, api.ErrLong}} {
		more := long
		more.Spots = append(more.Spots[:3:3], spot("d", "1/"+nines(row.digits), "0"))
		text := start + "spot d 1/" + string(nines(row.digits)) + " 0\n"
		printed, wanted := text, more
		if row.e != api.OK {
			printed, wanted = "", table.Table{}
		}
		want(t, "Print", both(table.Print(more)), printed, row.e)
		got := parsed(text)
		got.value.table = full(got.value.table)
		want(t, "Parse", got, tableParsed{table: full(wanted)}, row.e)
	}
	balls := []table.Ball{ball("a", "1/"+nines(600), "1/"+nines(600)), ball("b", "100", "1/"+nines(600)), ball("c", "200", "1/"+nines(600)), ball("d", "300", "1/"+nines(600)), ball("e", "400", "1/"+nines(600))}
	before := done(t, "PrintBalls", both(table.PrintBalls(example(), balls)))
	left = api.MaxText - len(before) - len("ball f 500 1/\n")
	for _, row := range []struct {
		digits int
		e      api.Errno
	}{{left, api.OK}, {left + 1, api.ErrLong}} {
		more := append(balls[:5:5], ball("f", "500", "1/"+nines(row.digits)))
		text := before + "ball f 500 1/" + string(nines(row.digits)) + "\n"
		printed, wanted := text, more
		if row.e != api.OK {
			printed, wanted = "", []table.Ball{}
		}
		want(t, "PrintBalls", both(table.PrintBalls(example(), more)), printed, row.e)
		want(t, "ParseBalls", parsedBalls(example(), text), ballsParsed{balls: wanted}, row.e)
	}
}
