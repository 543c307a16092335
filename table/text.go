package table

import (
	"slices"
	"strconv"
	"strings"

	"baulk/api"
)

// maxWordDigits is the number of digits that an integer of a text has at most.
const maxWordDigits = 9

// Print returns the text of a table.
func Print(t Table) (string, api.Errno) {
	if e := CheckTable(t); e != api.OK {
		return "", e
	}
	lines := []string{line("radius", strconv.Itoa(t.Radius))}
	for _, c := range t.Corners {
		lines = append(lines, line("corner", strconv.Itoa(c.X), strconv.Itoa(c.Y)))
	}
	for _, p := range t.Pockets {
		lines = append(lines, line("pocket", p.Name, strconv.Itoa(p.Edge), string(p.From), string(p.To)))
	}
	for _, s := range t.Spots {
		lines = append(lines, line("spot", s.Name, string(s.At.X), string(s.At.Y)))
	}
	return joined(lines)
}

// PrintBalls returns the text of balls.
func PrintBalls(t Table, l []Ball) (string, api.Errno) {
	if e := CheckLayout(t, l); e != api.OK {
		return "", e
	}
	var lines []string
	for _, b := range l {
		lines = append(lines, line("ball", b.Name, string(b.At.X), string(b.At.Y)))
	}
	return joined(lines)
}

// line returns a line of words.
func line(words ...string) string { return strings.Join(words, " ") + "\n" }

// joined returns the text with some lines, or ErrLong.
func joined(lines []string) (string, api.Errno) {
	text := strings.Join(lines, "")
	if len(text) > api.MaxText {
		return "", api.ErrLong
	}
	return text, api.OK
}

// Parse returns the table with a text, or the line of the first error.
func Parse(s string) (Table, int, api.Errno) {
	if s == "" {
		return Table{}, 0, api.ErrTorn
	}
	var r tableReader
	n, e := readLines(s, r.read)
	if e != api.OK {
		return Table{}, n, e
	}
	if !r.hasRadius {
		return Table{}, n + 1, api.ErrSyntax
	}
	if e := CheckTable(r.table); e != api.OK {
		return Table{}, 0, e
	}
	return r.table, 0, api.OK
}

// ParseBalls returns the balls with a text, or the line of the first error.
func ParseBalls(t Table, s string) ([]Ball, int, api.Errno) {
	if e := CheckTable(t); e != api.OK {
		return nil, 0, e
	}
	var r ballReader
	if n, e := readLines(s, r.read); e != api.OK {
		return nil, n, e
	}
	if e := CheckLayout(t, r.balls); e != api.OK {
		return nil, 0, e
	}
	return r.balls, 0, api.OK
}

// readLines has the words of each line of a text read, and returns the number of lines. With an error it returns the
// number of the first line that is not read, or 0.
func readLines(s string, read func(words []string) bool) (int, api.Errno) {
	switch {
	case len(s) > api.MaxText:
		return 0, api.ErrLong
	case s != "" && !strings.HasSuffix(s, "\n"):
		return 0, api.ErrTorn
	}
	n := 0
	for text := range strings.Lines(s) {
		n++
		words := strings.Split(strings.TrimSuffix(text, "\n"), " ")
		if slices.Contains(words, "") || !read(words) {
			return n, api.ErrSyntax
		}
	}
	return n, api.OK
}

// tableReader collects what the lines of the text of a table say.
type tableReader struct {
	table     Table
	hasRadius bool
	kind      int // of the last line, by its number in the list of all kinds
}

// lineKind is a kind of lines: the first word, the number of words behind it, and what reads these.
type lineKind struct {
	word   string
	length int
	read   func(words []string) bool
}

// read reads a line, and reports whether a line of its form can stand behind those before it.
func (r *tableReader) read(words []string) bool {
	kinds := []lineKind{
		{word: "radius", length: 1, read: r.readRadius},
		{word: "corner", length: 2, read: r.readCorner},
		{word: "pocket", length: 4, read: r.readPocket},
		{word: "spot", length: 3, read: r.readSpot},
	}
	for i := r.kind; i < len(kinds); i++ {
		if words[0] == kinds[i].word && len(words) == 1+kinds[i].length {
			r.kind = i
			return kinds[i].read(words[1:])
		}
	}
	return false
}

func (r *tableReader) readRadius(words []string) bool {
	radius, ok := readInteger(words[0])
	if !ok || r.hasRadius {
		return false
	}
	r.table.Radius, r.hasRadius = radius, true
	return true
}

func (r *tableReader) readCorner(words []string) bool {
	x, first := readInteger(words[0])
	y, second := readInteger(words[1])
	r.table.Corners = append(r.table.Corners, api.Point{X: x, Y: y})
	return first && second
}

func (r *tableReader) readPocket(words []string) bool {
	edge, ok := readInteger(words[1])
	pocket := Pocket{Name: words[0], Edge: edge, From: api.Rat(words[2]), To: api.Rat(words[3])}
	r.table.Pockets = append(r.table.Pockets, pocket)
	return ok
}

func (r *tableReader) readSpot(words []string) bool {
	r.table.Spots = append(r.table.Spots, Spot{Name: words[0], At: placeOf(words[1], words[2])})
	return true
}

// ballReader collects what the lines of the text of balls say.
type ballReader struct {
	balls []Ball
}

// read reads a line, and reports whether it has the form of one.
func (r *ballReader) read(words []string) bool {
	if words[0] != "ball" || len(words) != 4 {
		return false
	}
	r.balls = append(r.balls, Ball{Name: words[1], At: placeOf(words[2], words[3])})
	return true
}

// placeOf returns the place with two words, which may not be numbers.
func placeOf(x, y string) api.Place { return api.Place{X: api.Rat(x), Y: api.Rat(y)} }

// readInteger returns the integer that is printed as a word, and whether there is one with so few digits.
func readInteger(word string) (int, bool) {
	n, err := strconv.Atoi(word)
	isOne := err == nil && strconv.Itoa(n) == word && len(strings.TrimPrefix(word, "-")) <= maxWordDigits
	if !isOne {
		return 0, false
	}
	return n, true
}
