package cells

import (
	"math"
	"testing"

	"crimp/api"
	"crimp/lines"
	"crimp/moves"
)

// badCells are cells that are not valid, and badLines and badMoves such as the layers below do not accept.
var (
	badCells = []api.Cell{
		{Q: 4}, {Q: 5}, {X: 3, Y: -7, Q: 8}, {Q: 255},
		{X: 4097}, {X: -4097, Q: 1}, {Y: 4097, Q: 2}, {Y: -4097, Q: 3}, {X: 4097, Y: -4097, Q: 4},
		{X: math.MaxInt}, {X: math.MinInt, Q: 3}, {Y: math.MaxInt, Q: 1}, {Y: math.MinInt, Q: 2},
		{X: math.MaxInt, Y: math.MaxInt}, {X: math.MinInt, Y: math.MinInt}, {X: math.MinInt, Y: math.MaxInt, Q: 9}, {X: 1 << 32}, {Y: -1 << 32},
	}
	badLines = []api.Line{{}, {Kind: 5}, {Kind: 255, C: 1}, {Kind: api.V, C: 4097}, {Kind: api.H, C: -4097}, {Kind: api.U, C: math.MinInt}, {Kind: api.D, C: math.MaxInt}}
	badMoves = []moves.Move{{Turn: 8}, {Turn: 255}, {X: 1}, {Y: -1}, {X: 16386}, {Turn: 3, Y: -16386}, {X: math.MaxInt, Y: math.MaxInt}, {Turn: 7, X: math.MinInt}}
)

// cell returns the cell of a quarter, which is S, E, N or W.
func cell(x, y int, quarter byte) api.Cell {
	return api.Cell{X: x, Y: y, Q: map[byte]uint8{'S': 0, 'E': 1, 'N': 2, 'W': 3}[quarter]}
}

// block returns the cells of the squares from (low, low) to (high, high), ascending.
func block(low, high int) []api.Cell {
	var out []api.Cell
	for y := low; y <= high; y++ {
		for x := low; x <= high; x++ {
			for q := range uint8(4) {
				out = append(out, api.Cell{X: x, Y: y, Q: q})
			}
		}
	}
	return out
}

// someCells returns cells near (0, 0), and at the limits.
func someCells() []api.Cell {
	out := block(-2, 2)
	for _, at := range [][2]int{{4096, 0}, {-4096, 1}, {2, 4096}, {-1, -4096}, {4096, 4096}, {-4096, 4096}, {4096, -4096}, {-4096, -4096}, {4095, -4095}, {17, 1000}} {
		for q := range uint8(4) {
			out = append(out, api.Cell{X: at[0], Y: at[1], Q: q})
		}
	}
	return out
}

// allLines returns the lines of all kinds with C from low to high.
func allLines(low, high int) []api.Line {
	var out []api.Line
	for k := api.V; k <= api.D; k++ {
		for c := low; c <= high; c++ {
			out = append(out, api.Line{Kind: k, C: c})
		}
	}
	return out
}

// centre returns the centre of gravity of a cell, in sixths of the side of a square. It tells the cell.
func centre(c api.Cell) api.Point {
	p := map[uint8]api.Point{0: {X: 3, Y: 1}, 1: {X: 5, Y: 3}, 2: {X: 3, Y: 5}, 3: {X: 1, Y: 3}}[c.Q]
	return api.Point{X: 6*c.X + p.X, Y: 6*c.Y + p.Y}
}

// value is x, y, x + y or y - x of a point, as the document defines the kinds.
func value(k api.LineKind, p api.Point) int {
	switch k {
	case api.V:
		return p.X
	case api.H:
		return p.Y
	case api.U:
		return p.X + p.Y
	}
	return p.Y - p.X
}

// inSixths is the mirror image in a line of a point in sixths.
func inSixths(l api.Line, p api.Point) api.Point {
	switch c := 6 * l.C; l.Kind {
	case api.V:
		return api.Point{X: 2*c - p.X, Y: p.Y}
	case api.H:
		return api.Point{X: p.X, Y: 2*c - p.Y}
	case api.U:
		return api.Point{X: c - p.Y, Y: c - p.X}
	default:
		return api.Point{X: p.Y - c, Y: p.X + c}
	}
}

func TestCheck(t *testing.T) { // P3.1
	for _, c := range someCells() {
		if e := Check(c); e != api.OK {
			t.Errorf("%v: %d", c, e)
		}
	}
	for _, c := range badCells {
		if e := Check(c); e != api.ErrArg {
			t.Errorf("%v: %d", c, e)
		}
	}
}

func TestCompare(t *testing.T) { // P3.1
	ascending := []api.Cell{
		{X: math.MaxInt, Y: math.MinInt, Q: 255}, {X: 0, Y: -4097}, {X: 5, Y: -2},
		{X: math.MinInt, Y: 0, Q: 1}, {X: -3, Y: 0, Q: 4}, {X: 0, Y: 0, Q: 0}, {X: 0, Y: 0, Q: 1}, {X: 0, Y: 0, Q: 2}, {X: 0, Y: 0, Q: 3}, {X: 0, Y: 0, Q: 4}, {X: 0, Y: 0, Q: 255},
		{X: 1, Y: 0, Q: 0}, {X: 1, Y: 0, Q: 3}, {X: math.MaxInt, Y: 0, Q: 0},
		{X: -7, Y: 1, Q: 2}, {X: 0, Y: 1, Q: 0}, {X: -9, Y: 4096, Q: 0}, {X: math.MinInt, Y: math.MaxInt, Q: 0}, {X: math.MinInt, Y: math.MaxInt, Q: 1},
	}
	for _, all := range [][]api.Cell{ascending, block(-2, 2)} {
		for i, a := range all {
			for j, b := range all {
				want := 0
				if i < j {
					want = -1
				} else if i > j {
					want = 1
				}
				if got := Compare(a, b); got != want {
					t.Errorf("%v, %v: %d, expected %d", a, b, got, want)
				}
			}
		}
	}
}

func TestLineExamples(t *testing.T) { // P3.2
	for _, x := range []struct {
		c    api.Cell
		want [3]string
	}{
		{cell(2, 5, 'S'), [3]string{"y 5", "u 8", "d 3"}},
		{cell(2, 5, 'E'), [3]string{"x 3", "u 8", "d 3"}},
		{cell(2, 5, 'N'), [3]string{"y 6", "u 8", "d 3"}},
		{cell(2, 5, 'W'), [3]string{"x 2", "u 8", "d 3"}},
		{cell(-3, -1, 'N'), [3]string{"y 0", "u -3", "d 2"}},
		{cell(-3, -1, 'E'), [3]string{"x -2", "u -3", "d 2"}},
		{cell(-4096, -1, 'W'), [3]string{"x -4096", "u -4096", "d 4095"}},
		{cell(4095, 0, 'E'), [3]string{"x 4096", "u 4096", "d -4095"}},
	} {
		for edge, want := range x.want {
			if l, e := Line(x.c, uint8(edge)); e != api.OK || lines.Text(l) != want {
				t.Errorf("%v, %d: %v, %d, expected %s", x.c, edge, l, e, want)
			}
		}
	}
}

func TestLine(t *testing.T) { // P3.2
	for _, c := range block(-4, 4) {
		at, _ := Corners(c)
		for edge := range uint8(3) {
			l, e := Line(c, edge)
			if e != api.OK || lines.Check(l) != api.OK {
				t.Fatalf("%v, %d: %v, %d", c, edge, l, e)
			}
			for i, p := range at { // the edge touches all but one
				if on := lines.Side(l, p) == 0; on != (i != int(edge)) {
					t.Errorf("%v, %d: %v and the corner %v", c, edge, l, p)
				}
			}
		}
	}
}

func TestLineErrors(t *testing.T) { // P3.2
	for _, x := range []struct {
		c    api.Cell
		edge uint8
		e    api.Errno
	}{
		{cell(4096, 0, 'S'), 1, api.ErrLimit}, {cell(4095, 0, 'S'), 1, api.OK}, {cell(4096, -1, 'S'), 1, api.OK},
		{cell(2048, 2048, 'W'), 1, api.ErrLimit}, {cell(2048, 2047, 'W'), 1, api.OK},
		{cell(-4096, -1, 'E'), 1, api.OK}, {cell(-4096, -2, 'E'), 1, api.ErrLimit}, {cell(-4096, -4096, 'N'), 1, api.ErrLimit},
		{cell(-1, 4095, 'S'), 2, api.OK}, {cell(-1, 4096, 'S'), 2, api.ErrLimit}, {cell(1, -4096, 'N'), 2, api.ErrLimit}, {cell(4096, -4096, 'W'), 2, api.ErrLimit}, {cell(4096, 4096, 'W'), 2, api.OK},
		{cell(4096, 0, 'E'), 0, api.ErrLimit}, {cell(4096, 0, 'W'), 0, api.OK}, {cell(4095, 0, 'E'), 0, api.OK}, {cell(-4096, 0, 'W'), 0, api.OK}, {cell(-4096, 0, 'E'), 0, api.OK},
		{cell(0, 4096, 'N'), 0, api.ErrLimit}, {cell(0, 4096, 'S'), 0, api.OK}, {cell(0, 4095, 'N'), 0, api.OK}, {cell(0, -4096, 'S'), 0, api.OK}, {cell(0, -4096, 'N'), 0, api.OK},
		{cell(4096, 0, 'S'), 3, api.ErrArg}, // not ErrLimit
	} {
		if l, e := Line(x.c, x.edge); e != x.e || e != api.OK && l != (api.Line{}) {
			t.Errorf("%v, %d: %v, %d, expected %d", x.c, x.edge, l, e, x.e)
		}
	}
	for _, bad := range badCells {
		for _, edge := range []uint8{0, 1, 2, 3} {
			if l, e := Line(bad, edge); e != api.ErrArg || l != (api.Line{}) {
				t.Errorf("%v, %d: %v, %d", bad, edge, l, e)
			}
		}
	}
	for q := range uint8(4) {
		for _, edge := range []uint8{3, 4, 128, 255} {
			if l, e := Line(api.Cell{X: 2, Y: 5, Q: q}, edge); e != api.ErrArg || l != (api.Line{}) {
				t.Errorf("%d, %d: %v, %d", q, edge, l, e)
			}
		}
	}
}

func TestNeighbourExamples(t *testing.T) { // P3.3
	for _, x := range []struct {
		c    api.Cell
		want [3]api.Cell
	}{
		{cell(0, 0, 'S'), [3]api.Cell{cell(0, -1, 'N'), cell(0, 0, 'E'), cell(0, 0, 'W')}},
		{cell(0, 0, 'E'), [3]api.Cell{cell(1, 0, 'W'), cell(0, 0, 'S'), cell(0, 0, 'N')}},
		{cell(0, 0, 'N'), [3]api.Cell{cell(0, 1, 'S'), cell(0, 0, 'W'), cell(0, 0, 'E')}},
		{cell(0, 0, 'W'), [3]api.Cell{cell(-1, 0, 'E'), cell(0, 0, 'N'), cell(0, 0, 'S')}},
	} {
		for edge, want := range x.want {
			if n, e := Neighbour(x.c, uint8(edge)); e != api.OK || n != want {
				t.Errorf("%v, %d: %v, %d, expected %v", x.c, edge, n, e, want)
			}
		}
	}
}

func TestNeighbour(t *testing.T) { // P3.3
	for _, c := range someCells() {
		for edge := range uint8(3) {
			n, e := Neighbour(c, edge)
			l, noLine := Line(c, edge)
			beyond := edge == 0 && (c.X == 4096 && c.Q == api.East || c.X == -4096 && c.Q == api.West || c.Y == 4096 && c.Q == api.North || c.Y == -4096 && c.Q == api.South)
			switch {
			case beyond:
				if e != api.ErrLimit || n != (api.Cell{}) {
					t.Errorf("%v, %d: %v, %d", c, edge, n, e)
				}
			case e != api.OK || Check(n) != api.OK:
				t.Errorf("%v, %d: %v, %d", c, edge, n, e)
			case noLine == api.OK && centre(n) != inSixths(l, centre(c)):
				t.Errorf("%v, %d: %v does not lie behind %v", c, edge, n, l)
			}
		}
	}
}

func TestNeighbourErrors(t *testing.T) { // P3.3
	for _, bad := range badCells {
		for _, edge := range []uint8{0, 1, 2, 3} {
			if n, e := Neighbour(bad, edge); e != api.ErrArg || n != (api.Cell{}) {
				t.Errorf("%v, %d: %v, %d", bad, edge, n, e)
			}
		}
	}
	for _, c := range append(block(0, 0), cell(4096, 0, 'E')) {
		for _, edge := range []uint8{3, 4, 128, 255} {
			if n, e := Neighbour(c, edge); e != api.ErrArg || n != (api.Cell{}) {
				t.Errorf("%v, %d: %v, %d", c, edge, n, e)
			}
		}
	}
}

func TestTouch(t *testing.T) { // P3.3
	all := someCells()
	for _, a := range all {
		across := map[api.Cell]uint8{}
		for edge := range uint8(3) {
			if n, e := Neighbour(a, edge); e == api.OK {
				across[n] = edge
			}
		}
		for _, b := range all {
			want, are := across[b]
			if edge, e := Touch(a, b); are && (e != api.OK || edge != want) || !are && (e != api.ErrNone || edge != 0) {
				t.Errorf("%v, %v: %d, %d", a, b, edge, e)
			}
		}
	}
}

func TestTouchExamples(t *testing.T) { // P3.3
	for _, x := range []struct {
		a, b api.Cell
		edge uint8
		e    api.Errno
	}{
		{cell(0, 0, 'S'), cell(0, 0, 'E'), 1, api.OK},
		{cell(0, 0, 'S'), cell(0, 0, 'N'), 0, api.ErrNone},
		{cell(0, 0, 'S'), cell(0, 0, 'S'), 0, api.ErrNone},
		{cell(0, 0, 'S'), cell(0, -1, 'N'), 0, api.OK},
		{cell(0, 0, 'S'), cell(0, 1, 'N'), 0, api.ErrNone},
		{cell(0, 0, 'N'), cell(0, 0, 'E'), 2, api.OK},
		{cell(4096, 0, 'E'), cell(4096, 0, 'N'), 2, api.OK},
		{cell(4096, 0, 'E'), cell(-4096, 0, 'W'), 0, api.ErrNone},
	} {
		if edge, e := Touch(x.a, x.b); edge != x.edge || e != x.e {
			t.Errorf("%v, %v: %d, %d, expected %d, %d", x.a, x.b, edge, e, x.edge, x.e)
		}
	}
	bad := append([]api.Cell{{X: 4097, Q: 3}}, badCells...) // behind (4096, 0) East
	for _, b := range bad {
		for _, c := range []api.Cell{cell(0, 0, 'S'), cell(4096, 0, 'E'), b} {
			if edge, e := Touch(b, c); e != api.ErrArg || edge != 0 {
				t.Errorf("%v, %v: %d, %d", b, c, edge, e)
			}
			if edge, e := Touch(c, b); e != api.ErrArg || edge != 0 {
				t.Errorf("%v, %v: %d, %d", c, b, edge, e)
			}
		}
	}
}

func TestCornersExamples(t *testing.T) { // P3.4
	for _, x := range []struct {
		c    api.Cell
		want [3]api.Point
	}{
		{cell(0, 0, 'S'), [3]api.Point{{X: 1, Y: 1}, {X: 0, Y: 0}, {X: 2, Y: 0}}},
		{cell(0, 0, 'E'), [3]api.Point{{X: 1, Y: 1}, {X: 2, Y: 2}, {X: 2, Y: 0}}},
		{cell(0, 0, 'N'), [3]api.Point{{X: 1, Y: 1}, {X: 2, Y: 2}, {X: 0, Y: 2}}},
		{cell(0, 0, 'W'), [3]api.Point{{X: 1, Y: 1}, {X: 0, Y: 0}, {X: 0, Y: 2}}},
		{cell(-2, 3, 'W'), [3]api.Point{{X: -3, Y: 7}, {X: -4, Y: 6}, {X: -4, Y: 8}}},
		{cell(4096, -4096, 'E'), [3]api.Point{{X: 8193, Y: -8191}, {X: 8194, Y: -8190}, {X: 8194, Y: -8192}}},
	} {
		if p, e := Corners(x.c); e != api.OK || p != x.want {
			t.Errorf("%v: %v, %d, expected %v", x.c, p, e, x.want)
		}
	}
}

func TestCorners(t *testing.T) { // P3.4
	for _, c := range someCells() {
		p, e := Corners(c)
		if e != api.OK || p[0] != (api.Point{X: 2*c.X + 1, Y: 2*c.Y + 1}) {
			t.Fatalf("%v: %v, %d", c, p, e)
		}
		sum := api.Point{X: p[0].X + p[1].X + p[2].X, Y: p[0].Y + p[1].Y + p[2].Y} // of thirds of halves
		if sum != centre(c) {
			t.Errorf("%v: %v", c, p)
		}
		// The edge 1 does not touch the corner 1, which is on the line of the edge 2, and the other way round.
		if p[1].Y-p[1].X != 2*(c.Y-c.X) || p[2].X+p[2].Y != 2*(c.X+c.Y+1) {
			t.Errorf("%v: %v", c, p)
		}
	}
	for _, bad := range badCells {
		if p, e := Corners(bad); e != api.ErrArg || p != ([3]api.Point{}) {
			t.Errorf("%v: %v, %d", bad, p, e)
		}
	}
}

func TestSideExamples(t *testing.T) { // P3.5
	for _, x := range []struct {
		l    string
		c    api.Cell
		want int
	}{
		{"x 1", cell(0, 0, 'E'), 0}, {"x 1", cell(1, 0, 'W'), 1},
		{"u 1", cell(0, 0, 'S'), 0}, {"u 1", cell(0, 0, 'E'), 1}, {"u 1", cell(0, 0, 'N'), 1}, {"u 1", cell(0, 0, 'W'), 0},
		{"d 0", cell(0, 0, 'S'), 0}, {"d 0", cell(0, 0, 'E'), 0}, {"d 0", cell(0, 0, 'N'), 1}, {"d 0", cell(0, 0, 'W'), 1},
		{"y -2", cell(7, -3, 'N'), 0}, {"y -2", cell(7, -2, 'S'), 1},
		{"x 4096", cell(4095, 0, 'N'), 0}, {"x 4096", cell(4096, 0, 'S'), 1}, {"u -4096", cell(-4096, -4096, 'N'), 0}, {"d 4096", cell(-4096, 4096, 'E'), 1},
	} {
		l, _ := lines.Parse(x.l)
		if side, e := Side(l, x.c); e != api.OK || side != x.want {
			t.Errorf("%s, %v: %d, %d, expected %d", x.l, x.c, side, e, x.want)
		}
	}
}

func TestSide(t *testing.T) { // P3.5
	all := append(allLines(-5, 5), allLines(-4096, -4095)...)
	all = append(all, allLines(4095, 4096)...)
	for _, l := range all {
		for _, c := range someCells() {
			want := 0
			if value(l.Kind, centre(c)) > 6*l.C {
				want = 1
			}
			if side, e := Side(l, c); e != api.OK || side != want {
				t.Errorf("%v, %v: %d, %d, expected %d", l, c, side, e, want)
			}
		}
	}
	high := api.Line{Kind: api.V, C: -4096} // most cells lie on its high side, so that an error shows
	for _, bad := range badCells {
		if side, e := Side(high, bad); e != api.ErrArg || side != 0 {
			t.Errorf("%v: %d, %d", bad, side, e)
		}
	}
	for _, bad := range badLines {
		for _, c := range []api.Cell{cell(0, 0, 'S'), cell(4096, 4096, 'N'), {Q: 4}} {
			if side, e := Side(bad, c); e != api.ErrArg || side != 0 {
				t.Errorf("%v, %v: %d, %d", bad, c, side, e)
			}
		}
	}
}
