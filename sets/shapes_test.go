package sets

import (
	"math"
	"slices"
	"testing"

	"crimp/api"
	"crimp/cells"
	"crimp/moves"
)

// someMoves returns moves of all turns, near 0 and at their limits.
func someMoves() []moves.Move {
	var out []moves.Move
	for turn := range uint8(8) {
		for _, s := range [][2]int{{0, 0}, {1, 1}, {-2, 0}, {3, -5}, {0, 4096}, {-4094, 2}, {8192, -8192}, {16384, 0}, {-16384, 16384}} {
			out = append(out, moves.Move{Turn: turn, X: s[0], Y: s[1]})
		}
	}
	return out
}

func TestMoveExamples(t *testing.T) { // P4.4
	up, _ := moves.Parse("0 1 1")
	around, _ := moves.Parse("1 2 0")
	for i, x := range []struct {
		m       moves.Move
		l, want []api.Cell
	}{
		{up, setB(), []api.Cell{cell(1, 1, 'E'), cell(2, 1, 'S'), cell(2, 1, 'W')}},
		{up, nil, nil},
		{moves.Identity(), setB(), setB()},
		{around, slices.Concat(square(0, 0, "S"), square(1, 0, "SENW")), slices.Concat(square(1, 0, "E"), square(1, 1, "SENW"))},
		{moves.Move{Turn: 2}, slices.Concat(square(0, 0, "SE"), square(3, 1, "W")), slices.Concat(square(-4, -2, "E"), square(-1, -1, "NW"))},
		{moves.Move{Turn: 4, X: 1, Y: 1}, setB(), []api.Cell{cell(-1, 1, 'S'), cell(-1, 1, 'E'), cell(0, 1, 'W')}},
	} {
		if got, e := Move(x.m, x.l); e != api.OK || !slices.Equal(got, x.want) {
			t.Errorf("%d: %v, %d, expected %v", i, got, e, x.want)
		}
	}
}

func TestMove(t *testing.T) { // P4.4
	moved := 0
	for _, m := range someMoves() {
		for _, s := range someSets() {
			var images []api.Cell
			within := true
			for _, c := range s {
				to, e := cells.Move(m, c)
				images, within = append(images, to), within && e == api.OK
			}
			l, check := guarded(t, s)
			got, e := Move(m, l)
			check("Move")
			if !within {
				if e != api.ErrLimit || len(got) != 0 {
					t.Errorf("%v, %v: %v, %d", m, s, got, e)
				}
				continue
			}
			moved++
			if got := checkSlice(t, "Move", got); e != api.OK || !slices.Equal(got, naiveSet(images)) {
				t.Errorf("%v, %v: %v, %d", m, s, got, e)
			}
			check("what was written into the result of Move")
		}
	}
	if moved < 1000 {
		t.Errorf("only %d sets were moved", moved)
	}
}

func TestMoveErrors(t *testing.T) { // P4.4
	right := moves.Move{X: 2}
	for i, x := range []struct {
		l []api.Cell
		e api.Errno
	}{
		{[]api.Cell{{X: 4094}}, api.OK},
		{[]api.Cell{{X: 4095}}, api.ErrLimit},
		{[]api.Cell{{}, {X: 4095}}, api.ErrLimit},
		{[]api.Cell{{X: 4095}, {Y: 1}}, api.ErrLimit},
		{[]api.Cell{{X: 4095}, {X: 4096}, {X: 1}}, api.ErrState}, // not ErrLimit
		{[]api.Cell{{X: 4096}, {X: 4097}}, api.ErrArg},
	} {
		if got, e := Move(right, x.l); e != x.e || e != api.OK && len(got) != 0 {
			t.Errorf("%d: %v, %d", i, got, e)
		}
	}
	for _, bad := range []moves.Move{{Turn: 8}, {Turn: 255}, {X: 1}, {Y: -1}, {X: 16386}, {Turn: 5, Y: -16386}, {X: math.MaxInt, Y: math.MaxInt}, {X: math.MinInt}} {
		for _, l := range [][]api.Cell{nil, {}, setA(), full(), {{X: 4096}}} {
			if got, e := Move(bad, l); e != api.ErrArg || len(got) != 0 {
				t.Errorf("%v: %v, %d", bad, got, e)
			}
		}
		for i, x := range badLists { // the move is checked first
			if got, e := Move(bad, x.l); e != api.ErrArg || len(got) != 0 {
				t.Errorf("%v, %d: %v, %d", bad, i, got, e)
			}
		}
	}
	for i, x := range badLists {
		for _, m := range someMoves() {
			if got, e := Move(m, x.l); e != x.e || len(got) != 0 {
				t.Errorf("%v, %d: %v, %d", m, i, got, e)
			}
		}
	}
}

func TestShapeExamples(t *testing.T) { // P4.5
	for i, x := range []struct {
		l         []api.Cell
		squares   []api.Cell
		connected bool
		outline   []Edge
	}{
		{nil, nil, true, nil},
		{setA(), square(0, 0, "S"), true, []Edge{{cell(0, 0, 'S'), 0}, {cell(0, 0, 'E'), 0}, {cell(0, 0, 'N'), 0}, {cell(0, 0, 'W'), 0}}},
		{setB(), nil, true, []Edge{{cell(0, 0, 'E'), 1}, {cell(0, 0, 'E'), 2}, {cell(1, 0, 'S'), 0}, {cell(1, 0, 'S'), 1}, {cell(1, 0, 'W'), 1}}},
		{square(0, 0, "SN"), nil, false, []Edge{{cell(0, 0, 'S'), 0}, {cell(0, 0, 'S'), 1}, {cell(0, 0, 'S'), 2}, {cell(0, 0, 'N'), 0}, {cell(0, 0, 'N'), 1}, {cell(0, 0, 'N'), 2}}},
		{square(2, 3, "SE"), nil, true, []Edge{{cell(2, 3, 'S'), 0}, {cell(2, 3, 'S'), 2}, {cell(2, 3, 'E'), 0}, {cell(2, 3, 'E'), 2}}},
		// Squares with a corner in common only are not connected.
		{slices.Concat(square(1, 0, "SENW"), square(0, 1, "SENW")), []api.Cell{cell(1, 0, 'S'), cell(0, 1, 'S')}, false, []Edge{
			{cell(1, 0, 'S'), 0}, {cell(1, 0, 'E'), 0}, {cell(1, 0, 'N'), 0}, {cell(1, 0, 'W'), 0},
			{cell(0, 1, 'S'), 0}, {cell(0, 1, 'E'), 0}, {cell(0, 1, 'N'), 0}, {cell(0, 1, 'W'), 0}}},
		// Four cells in a row that are no square.
		{slices.Concat(square(0, 0, "SEN"), square(1, 0, "W")), nil, true, []Edge{{cell(0, 0, 'S'), 0}, {cell(0, 0, 'S'), 2}, {cell(0, 0, 'N'), 0}, {cell(0, 0, 'N'), 1}, {cell(1, 0, 'W'), 1}, {cell(1, 0, 'W'), 2}}},
		// Behind these edges there are no valid cells, but the cell with all fields 0 is in the set.
		{[]api.Cell{cell(0, 0, 'S'), cell(4096, 0, 'E')}, nil, false, []Edge{{cell(0, 0, 'S'), 0}, {cell(0, 0, 'S'), 1}, {cell(0, 0, 'S'), 2}, {cell(4096, 0, 'E'), 0}, {cell(4096, 0, 'E'), 1}, {cell(4096, 0, 'E'), 2}}},
		{[]api.Cell{cell(0, -4096, 'S'), cell(0, 0, 'S')}, nil, false, []Edge{{cell(0, -4096, 'S'), 0}, {cell(0, -4096, 'S'), 1}, {cell(0, -4096, 'S'), 2}, {cell(0, 0, 'S'), 0}, {cell(0, 0, 'S'), 1}, {cell(0, 0, 'S'), 2}}},
	} {
		squares, e := Squares(x.l)
		connected, f := Connected(x.l)
		outline, g := Outline(x.l)
		if e != api.OK || !slices.Equal(squares, x.squares) {
			t.Errorf("%d: Squares: %v, %d", i, squares, e)
		}
		if f != api.OK || connected != x.connected {
			t.Errorf("%d: Connected: %t, %d", i, connected, f)
		}
		if g != api.OK || !slices.Equal(outline, x.outline) {
			t.Errorf("%d: Outline: %v, %d", i, outline, g)
		}
	}
}

// naiveSquares looks for the four cells of each square.
func naiveSquares(l []api.Cell) []api.Cell {
	var out []api.Cell
	for _, c := range l {
		south := api.Cell{X: c.X, Y: c.Y}
		all := true
		for _, d := range square(c.X, c.Y, "SENW") {
			all = all && slices.Contains(l, d)
		}
		if all && !slices.Contains(out, south) {
			out = append(out, south)
		}
	}
	return out
}

// naiveConnected joins the groups of neighbours, which are all of one group at last if they are connected.
func naiveConnected(l []api.Cell) bool {
	group := make([]int, len(l))
	groups := len(l)
	for i := range l {
		group[i] = i
	}
	for i, a := range l {
		for j, b := range l {
			if _, e := cells.Touch(a, b); e != api.OK || group[i] == group[j] {
				continue
			}
			groups--
			for k, old := 0, group[j]; k < len(l); k++ {
				if group[k] == old {
					group[k] = group[i]
				}
			}
		}
	}
	return groups <= 1
}

// naiveOutline looks for an edge's neighbour among all cells.
func naiveOutline(l []api.Cell) []Edge {
	var out []Edge
	for _, c := range l {
		for edge := range uint8(3) {
			behind := slices.ContainsFunc(l, func(d api.Cell) bool {
				touched, e := cells.Touch(c, d)
				return e == api.OK && touched == edge
			})
			if !behind {
				out = append(out, Edge{c, edge})
			}
		}
	}
	return out
}

func TestShapes(t *testing.T) { // P4.5
	connected := 0
	for _, s := range someSets() {
		l, check := guarded(t, s)
		squares, e := Squares(l)
		together, f := Connected(l)
		outline, g := Outline(l)
		check("Squares, Connected or Outline")
		if got := checkSlice(t, "Squares", squares); e != api.OK || !slices.Equal(got, naiveSquares(s)) {
			t.Errorf("%v: Squares: %v, %d", s, got, e)
		}
		if f != api.OK || together != naiveConnected(s) {
			t.Errorf("%v: Connected: %t, %d", s, together, f)
		}
		if got := checkSlice(t, "Outline", outline); g != api.OK || !slices.Equal(got, naiveOutline(s)) {
			t.Errorf("%v: Outline: %v, %d", s, got, g)
		}
		check("what was written into the results of Squares and Outline")
		if together {
			connected++
		}
	}
	if connected < 10 || connected > len(someSets())-10 {
		t.Errorf("%d of %d sets are connected", connected, len(someSets()))
	}
}

func TestLargeShapes(t *testing.T) { // P4.5
	all := full()
	squares, e := Squares(all)
	connected, f := Connected(all)
	outline, g := Outline(all)
	if e != api.OK || f != api.OK || g != api.OK || len(squares) != 256 || !connected || len(outline) != 64 {
		t.Errorf("%d, %d, %d: %d squares, %t, %d edges", e, f, g, len(squares), connected, len(outline))
	}
	row := block(-100, 4096, 256, 1) // a walk from end to end
	if connected, e := Connected(row); e != api.OK || !connected {
		t.Errorf("a row: %t, %d", connected, e)
	}
	if connected, e := Connected(slices.Concat(row[:400], row[404:])); e != api.OK || connected {
		t.Errorf("a row with a gap: %t, %d", connected, e)
	}
}

func TestShapeErrors(t *testing.T) { // P4.5
	for i, x := range badLists {
		squares, e := Squares(x.l)
		connected, f := Connected(x.l)
		outline, g := Outline(x.l)
		if e != x.e || len(squares) != 0 {
			t.Errorf("%d: Squares: %v, %d", i, squares, e)
		}
		if f != x.e || connected {
			t.Errorf("%d: Connected: %t, %d", i, connected, f)
		}
		if g != x.e || len(outline) != 0 {
			t.Errorf("%d: Outline: %v, %d", i, outline, g)
		}
	}
}
