package scene

import (
	"testing"

	"baulk/api"
	"baulk/exact"
	"baulk/plane"
	"baulk/table"
)

// rectangle returns a table with a pocket, pair two balls on it.
func rectangle() table.Table {
	return table.Table{
		Corners: []api.Point{{}, {X: 8}, {X: 8, Y: 4}, {Y: 4}},
		Radius:  1,
		Pockets: []table.Pocket{{Name: "side", Edge: 2, From: "1/4", To: "1/2"}},
	}
}

func pair() []table.Ball {
	return []table.Ball{{Name: "a", At: at("1", "1")}, {Name: "b", At: at("9/2", "3")}}
}

func at(x, y api.Rat) api.Place { return api.Place{X: x, Y: y} }

// read returns a place that has no error.
func read(t *testing.T, x, y api.Rat) plane.Place {
	t.Helper()
	p, e := plane.Read(at(x, y))
	if e != api.OK {
		t.Fatalf("%s %s: the error %d", x, y, e)
	}
	return p
}

func TestTables(t *testing.T) {
	s, e := ReadTable(rectangle())
	if e != api.OK || len(s.Corners) != 4 || s.Radius != 1 || s.Reach() != 4 || len(s.Balls) != 0 || len(s.Gaps) != 1 {
		t.Fatalf("ReadTable: got %v and the error %d", s, e)
	}
	quarter := exact.NewFraction(exact.NewInt(1), exact.NewInt(4)).Ratio()
	if g := s.Gaps[0]; g.Edge != 2 || g.From.Order(quarter) != 0 || g.To.Order(exact.NewRatio(exact.NewInt(2), exact.NewInt(4))) != 0 {
		t.Errorf("the pocket has the gap %v", g)
	}
	broken := rectangle()
	broken.Pockets[0].To = "1/8"
	if s, e := ReadTable(broken); e != api.ErrOrder || s.Corners != nil {
		t.Errorf("ReadTable: got %v and the error %d", s, e)
	}
	for p, wanted := range map[api.Place]api.Errno{at("8", "1"): api.OK, at("1/2", "1"): api.OK, at("8", "5"): api.ErrOutside, at("x", "5"): api.ErrForm} {
		if _, e := s.ReadWithin(p); e != wanted {
			t.Errorf("ReadWithin of %v: got the error %d, want %d", p, e, wanted)
		}
	}
}

func TestLayouts(t *testing.T) {
	s, e := ReadLayout(rectangle(), pair())
	if e != api.OK || len(s.Balls) != 2 || s.Balls[0].Name != "a" || s.Balls[1].Name != "b" {
		t.Fatalf("ReadLayout: got %v and the error %d", s, e)
	}
	if got, _ := s.Balls[1].At.Write(); got != pair()[1].At {
		t.Errorf("the ball b is at %v", got)
	}
	if s, e := ReadLayout(rectangle(), append(pair(), pair()[0])); e != api.ErrTwice || s.Balls != nil {
		t.Errorf("ReadLayout: got %v and the error %d", s, e)
	}
	less := s.Without("a", "x")
	if len(less.Balls) != 1 || less.Balls[0].Name != "b" || len(s.Balls) != 2 || s.Balls[0].Name != "a" || s.Balls[1].Name != "b" {
		t.Errorf("%v is %v without a", s, less)
	}
	for _, row := range []struct {
		x, y   api.Rat
		blocks bool
	}{{"4", "1", false}, {"4", "5/4", true}, {"5", "1", false}, {"9/2", "101/100", true}, {"5", "3", true}, {"8", "3", false}} {
		if got := s.Blocks(s.Balls[1], read(t, "8", row.y), read(t, row.x, row.y)); got != row.blocks {
			t.Errorf("the ball b blocks the way to %s %s: got %v", row.x, row.y, got)
		}
	}
}
