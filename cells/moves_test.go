package cells

import (
	"testing"

	"crimp/api"
	"crimp/moves"
)

// someMoves returns moves of all turns: by little, and up to the limits.
func someMoves() []moves.Move {
	var out []moves.Move
	for turn := range uint8(8) {
		for _, s := range [][2]int{
			{0, 0}, {1, 1}, {2, 0}, {0, -2}, {-3, 5}, {-4, -6}, {7, -1}, {4096, 4096}, {-4095, 1}, {-8192, 8192}, {8191, -1},
			{16384, 16384}, {-16384, 16384}, {16384, 0}, {0, -16384}, {16383, -16383},
		} {
			out = append(out, moves.Move{Turn: turn, X: s[0], Y: s[1]})
		}
	}
	return out
}

// takes returns where a move takes a point in sixths, as the document's table of turns has it.
func takes(m moves.Move, p api.Point) api.Point {
	x, y := p.X, p.Y
	switch m.Turn {
	case 1:
		x, y = -y, x
	case 2:
		x, y = -x, -y
	case 3:
		x, y = y, -x
	case 4:
		x = -x
	case 5:
		x, y = -y, -x
	case 6:
		y = -y
	case 7:
		x, y = y, x
	}
	return api.Point{X: x + 6*m.X, Y: y + 6*m.Y}
}

// within4096 reports whether a point in sixths lies in a square from (-4096, -4096) to (4096, 4096).
func within4096(p api.Point) bool {
	low, high := -6*4096, 6*4097
	return low < p.X && p.X < high && low < p.Y && p.Y < high
}

func TestMove(t *testing.T) { // P3.6
	for _, m := range someMoves() {
		for _, c := range someCells() {
			to, e := Move(m, c)
			want := takes(m, centre(c))
			if !within4096(want) {
				if e != api.ErrLimit || to != (api.Cell{}) {
					t.Errorf("%v, %v: %v, %d", m, c, to, e)
				}
			} else if e != api.OK || Check(to) != api.OK || centre(to) != want {
				t.Errorf("%v, %v: %v, %d", m, c, to, e)
			}
		}
	}
}

func TestMoveExamples(t *testing.T) { // P3.6
	for _, x := range []struct {
		m    string
		c    api.Cell
		want api.Cell
		e    api.Errno
	}{
		{"1 2 4", cell(0, 0, 'S'), cell(1, 4, 'E'), api.OK},
		{"0 4096 0", cell(0, 0, 'S'), cell(4096, 0, 'S'), api.OK},
		{"0 4096 0", cell(1, 0, 'W'), api.Cell{}, api.ErrLimit},
		{"0 0 -4096", cell(3, 0, 'N'), cell(3, -4096, 'N'), api.OK},
		{"0 0 -4096", cell(3, -1, 'N'), api.Cell{}, api.ErrLimit},
		{"2 0 0", cell(4095, -4096, 'E'), cell(-4096, 4095, 'W'), api.OK},
		{"2 0 0", cell(4096, -4096, 'E'), api.Cell{}, api.ErrLimit},
		{"4 0 0", cell(4096, 0, 'S'), api.Cell{}, api.ErrLimit},
		{"4 2 0", cell(4096, 0, 'E'), cell(-4095, 0, 'W'), api.OK},
		{"0 16384 16384", cell(-4096, -4096, 'S'), api.Cell{}, api.ErrLimit},
	} {
		m, _ := moves.Parse(x.m)
		if to, e := Move(m, x.c); e != x.e || to != x.want {
			t.Errorf("%s, %v: %v, %d, expected %v, %d", x.m, x.c, to, e, x.want, x.e)
		}
	}
}

func TestMoveErrors(t *testing.T) { // P3.6
	for _, bad := range badCells {
		for _, m := range []moves.Move{{}, {Turn: 7, X: 2}, {X: 16384}, {Turn: 9}} { // also where ErrLimit would follow
			if to, e := Move(m, bad); e != api.ErrArg || to != (api.Cell{}) {
				t.Errorf("%v, %v: %v, %d", m, bad, to, e)
			}
		}
	}
	for _, bad := range badMoves {
		for _, c := range []api.Cell{cell(0, 0, 'S'), cell(-4096, 3, 'W'), cell(4096, 4096, 'N')} {
			if to, e := Move(bad, c); e != api.ErrArg || to != (api.Cell{}) {
				t.Errorf("%v, %v: %v, %d", bad, c, to, e)
			}
		}
	}
}

func TestBetweenExamples(t *testing.T) { // P3.6
	for _, x := range []struct {
		b    api.Cell
		want string
	}{
		{cell(0, 0, 'S'), "0 0 0"}, {cell(0, 0, 'W'), "7 0 0"}, {cell(0, 0, 'E'), "5 1 1"}, {cell(0, 0, 'N'), "2 1 1"},
		{cell(0, -1, 'N'), "6 0 0"}, {cell(1, 0, 'S'), "4 2 0"}, {cell(1, 4, 'E'), "1 2 4"}, {cell(1, 1, 'S'), "0 1 1"},
	} {
		if m, e := Between(cell(0, 0, 'S'), x.b); e != api.OK || moves.Text(m) != x.want {
			t.Errorf("%v: %v, %d, expected %s", x.b, m, e, x.want)
		}
	}
	// The corner (0, 0) is moved to (2, 0).
	m, _ := Between(cell(0, 0, 'S'), cell(1, 0, 'S'))
	if p, e := moves.Point(m, api.Point{}); e != api.OK || p != (api.Point{X: 4}) {
		t.Errorf("%v: (0, 0) is moved to %v, in halves, %d", m, p, e)
	}
}

func TestBetween(t *testing.T) { // P3.6
	for _, a := range someCells() {
		for _, b := range someCells() {
			m, e := Between(a, b)
			if e != api.OK || moves.Check(m) != api.OK || takes(m, centre(a)) != centre(b) {
				t.Errorf("%v, %v: %v, %d", a, b, m, e)
			}
		}
	}
	for _, bad := range badCells {
		for _, c := range []api.Cell{cell(0, 0, 'S'), cell(-4096, 4096, 'E'), bad} {
			if m, e := Between(bad, c); e != api.ErrArg || m != (moves.Move{}) {
				t.Errorf("%v, %v: %v, %d", bad, c, m, e)
			}
			if m, e := Between(c, bad); e != api.ErrArg || m != (moves.Move{}) {
				t.Errorf("%v, %v: %v, %d", c, bad, m, e)
			}
		}
	}
}
