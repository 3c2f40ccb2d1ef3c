package sheets

import (
	"slices"
	"testing"

	"crimp/api"
	"crimp/lines"
)

// A stretch is a unit, as it is found by the points between which it lies.
type stretch struct {
	unit  Unit
	other int // the greater id
	ends  [2]api.Point
	line  api.Line
}

// triangle returns the corners of a cell, in halves: the middle of its square, and the ends of its side, first the left or the lower one.
func triangle(c api.Cell) [3]api.Point {
	x, y := 2*c.X, 2*c.Y
	low, high := api.Point{X: x, Y: y}, api.Point{X: x + 2, Y: y + 2}
	right, left := api.Point{X: x + 2, Y: y}, api.Point{X: x, Y: y + 2}
	side := map[uint8][2]api.Point{api.South: {low, right}, api.East: {right, high}, api.North: {left, high}, api.West: {low, left}}[c.Q]
	return [3]api.Point{{X: x + 1, Y: y + 1}, side[0], side[1]}
}

// through returns the line through two points, and the number of the edge that lies on such a line.
func through(a, b api.Point) (api.Line, uint8) {
	switch {
	case a.X == b.X:
		return api.Line{Kind: api.V, C: a.X / 2}, 0
	case a.Y == b.Y:
		return api.Line{Kind: api.H, C: a.Y / 2}, 0
	case a.X+a.Y == b.X+b.Y:
		return api.Line{Kind: api.U, C: (a.X + a.Y) / 2}, 1
	}
	return api.Line{Kind: api.D, C: (a.Y - a.X) / 2}, 2
}

// stretches finds the units of a sheet: two cells have them between two corners that both have. They ascend.
func stretches(s Sheet) []stretch {
	var out []stretch
	first := map[[2]api.Point]int{}
	for id, c := range cellsInOrder(s) {
		at := triangle(c)
		for _, ends := range [][2]api.Point{{at[0], at[1]}, {at[0], at[2]}, {at[1], at[2]}} {
			if ends[0].X > ends[1].X {
				ends[0], ends[1] = ends[1], ends[0]
			}
			if other, ok := first[ends]; ok {
				line, edge := through(ends[0], ends[1])
				out = append(out, stretch{Unit{other, edge}, id, ends, line})
			} else {
				first[ends] = id
			}
		}
	}
	slices.SortFunc(out, func(a, b stretch) int {
		return (a.unit.Cell-b.unit.Cell)*10 + int(a.unit.Edge) - int(b.unit.Edge)
	})
	return out
}

func TestNeighbourAndNameExamples(t *testing.T) { // P5.3
	s := Sheet{2, 1}
	for _, x := range []struct {
		id, edge, next, least int
		e                     api.Errno
	}{
		{1, 0, 7, 1, api.OK}, {1, 1, 0, 0, api.OK}, {1, 2, 2, 1, api.OK}, {7, 0, 1, 1, api.OK},
		{0, 0, 0, 0, api.ErrNone}, {2, 0, 0, 0, api.ErrNone}, {3, 0, 0, 0, api.ErrNone}, {5, 0, 0, 0, api.ErrNone},
		{0, 3, 0, 0, api.ErrArg}, {1, 3, 0, 0, api.ErrArg}, {7, 255, 0, 0, api.ErrArg},
		{8, 0, 0, 0, api.ErrNone}, {-1, 1, 0, 0, api.ErrNone}, {8, 3, 0, 0, api.ErrNone}, {-1, 255, 0, 0, api.ErrNone},
	} {
		var want Unit
		if x.e == api.OK {
			want = Unit{x.least, uint8(x.edge)}
		}
		if id, e := Neighbour(s, x.id, uint8(x.edge)); e != x.e || id != x.next {
			t.Errorf("Neighbour of %d, %d: %d, %d", x.id, x.edge, id, e)
		}
		if u, e := Name(s, x.id, uint8(x.edge)); e != x.e || u != want {
			t.Errorf("Name of %d, %d: %v, %d", x.id, x.edge, u, e)
		}
	}
}

func TestNeighbourAndName(t *testing.T) { // P5.3
	type side struct {
		id   int
		edge uint8
	}
	for _, s := range someSheets() {
		next, names := map[side]int{}, map[side]Unit{}
		for _, x := range stretches(s) {
			low, high := side{x.unit.Cell, x.unit.Edge}, side{x.other, x.unit.Edge}
			next[low], next[high] = x.other, x.unit.Cell
			names[low], names[high] = x.unit, x.unit
		}
		for id := range 4 * s.W * s.H {
			for edge := range uint8(3) {
				behind, found := next[side{id, edge}]
				want := api.OK
				if !found {
					want = api.ErrNone
				}
				if got, e := Neighbour(s, id, edge); e != want || got != behind {
					t.Errorf("%v, Neighbour of %d, %d: %d, %d, expected %d, %d", s, id, edge, got, e, behind, want)
				}
				if got, e := Name(s, id, edge); e != want || got != names[side{id, edge}] {
					t.Errorf("%v, Name of %d, %d: %v, %d, expected %v, %d", s, id, edge, got, e, names[side{id, edge}], want)
				}
			}
		}
	}
}

func TestNeighbourAndNameErrors(t *testing.T) { // P5.3
	for _, s := range someSheets() {
		n := 4 * s.W * s.H
		for _, id := range someNumbers(n) {
			for _, edge := range []uint8{0, 1, 2, 3, 4, 255} {
				want := api.ErrNone // also for an edge that there is not
				if 0 <= id && id < n {
					if edge < 3 {
						continue // see TestNeighbourAndName
					}
					want = api.ErrArg // also where no cell of the sheet would lie behind it
				}
				if got, e := Neighbour(s, id, edge); e != want || got != 0 {
					t.Errorf("%v, Neighbour of %d, %d: %d, %d", s, id, edge, got, e)
				}
				if got, e := Name(s, id, edge); e != want || got != (Unit{}) {
					t.Errorf("%v, Name of %d, %d: %v, %d", s, id, edge, got, e)
				}
			}
		}
	}
}

func TestUnitsExamples(t *testing.T) { // P5.4
	for _, x := range []struct {
		s    Sheet
		want []Unit
	}{
		{Sheet{1, 1}, []Unit{{0, 1}, {0, 2}, {1, 2}, {2, 1}}},
		{Sheet{2, 1}, []Unit{{0, 1}, {0, 2}, {1, 0}, {1, 2}, {2, 1}, {4, 1}, {4, 2}, {5, 2}, {6, 1}}},
		{Sheet{1, 2}, []Unit{{0, 1}, {0, 2}, {1, 2}, {2, 0}, {2, 1}, {4, 1}, {4, 2}, {5, 2}, {6, 1}}},
	} {
		if got, e := Units(x.s); e != api.OK || !slices.Equal(got, x.want) {
			t.Errorf("%v: %v, %d, expected %v", x.s, got, e, x.want)
		}
	}
}

func TestLineAndEndsExamples(t *testing.T) { // P5.4
	for _, x := range []struct {
		s    Sheet
		u    Unit
		line string
		ends [2]api.Point
	}{
		{Sheet{1, 1}, Unit{0, 1}, "u 1", [2]api.Point{{X: 1, Y: 1}, {X: 2, Y: 0}}},
		{Sheet{1, 1}, Unit{0, 2}, "d 0", [2]api.Point{{X: 0, Y: 0}, {X: 1, Y: 1}}},
		{Sheet{1, 1}, Unit{1, 2}, "d 0", [2]api.Point{{X: 1, Y: 1}, {X: 2, Y: 2}}},
		{Sheet{1, 1}, Unit{2, 1}, "u 1", [2]api.Point{{X: 0, Y: 2}, {X: 1, Y: 1}}},
		{Sheet{2, 1}, Unit{1, 0}, "x 1", [2]api.Point{{X: 2, Y: 0}, {X: 2, Y: 2}}},
		{Sheet{1, 2}, Unit{2, 0}, "y 1", [2]api.Point{{X: 0, Y: 2}, {X: 2, Y: 2}}},
		{Sheet{256, 1}, Unit{1020, 2}, "d -255", [2]api.Point{{X: 510, Y: 0}, {X: 511, Y: 1}}},
		{Sheet{1, 256}, Unit{1022, 1}, "u 256", [2]api.Point{{X: 0, Y: 512}, {X: 1, Y: 511}}},
	} {
		if l, e := Line(x.s, x.u); e != api.OK || lines.Text(l) != x.line {
			t.Errorf("%v, Line of %v: %v, %d, expected %s", x.s, x.u, l, e, x.line)
		}
		if p, e := Ends(x.s, x.u); e != api.OK || p != x.ends {
			t.Errorf("%v, Ends of %v: %v, %d, expected %v", x.s, x.u, p, e, x.ends)
		}
	}
}

func TestUnitsLineAndEnds(t *testing.T) { // P5.4
	for _, s := range someSheets() {
		var all []Unit
		for _, x := range stretches(s) {
			all = append(all, x.unit)
			if l, e := Line(s, x.unit); e != api.OK || l != x.line {
				t.Errorf("%v, Line of %v: %v, %d, expected %v", s, x.unit, l, e, x.line)
			}
			if p, e := Ends(s, x.unit); e != api.OK || p != x.ends {
				t.Errorf("%v, Ends of %v: %v, %d, expected %v", s, x.unit, p, e, x.ends)
			}
		}
		if got := checkSlice(t, s, Units); !slices.Equal(got, all) {
			t.Errorf("%v: %v, expected %v", s, got, all)
		}
	}
}

func TestLineAndEndsErrors(t *testing.T) { // P5.4
	for _, s := range someSheets() {
		named := map[Unit]bool{}
		for _, x := range stretches(s) {
			named[x.unit] = true
		}
		ids := someNumbers(4 * s.W * s.H)
		for id := range 4 * s.W * s.H {
			ids = append(ids, id)
		}
		for _, id := range ids {
			for _, edge := range []uint8{0, 1, 2, 3, 4, 255} {
				u := Unit{id, edge}
				if named[u] {
					continue
				}
				if l, e := Line(s, u); e != api.ErrNone || l != (api.Line{}) {
					t.Errorf("%v, Line of %v: %v, %d", s, u, l, e)
				}
				if p, e := Ends(s, u); e != api.ErrNone || p != [2]api.Point{} {
					t.Errorf("%v, Ends of %v: %v, %d", s, u, p, e)
				}
			}
		}
	}
	for _, u := range []Unit{{7, 0}, {1, 1}, {3, 1}, {2, 2}, {3, 2}} { // named by the greater id
		if _, e := Name(Sheet{2, 1}, u.Cell, u.Edge); e != api.OK {
			t.Errorf("%v is no edge between two cells: %d", u, e)
		}
		if l, e := Line(Sheet{2, 1}, u); e != api.ErrNone || l != (api.Line{}) {
			t.Errorf("Line of %v: %v, %d", u, l, e)
		}
	}
}
