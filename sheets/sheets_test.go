package sheets

import (
	"math"
	"slices"
	"testing"

	"crimp/api"
	"crimp/cells"
)

// badSheets are sheets that are not valid.
var badSheets = []Sheet{
	{}, {0, 1}, {1, 0}, {0, 256}, {-1, 1}, {1, -1}, {-1, -1}, {-16, -16}, {-2, 3}, {3, -2},
	{257, 1}, {1, 257}, {17, 16}, {16, 17}, {128, 3}, {3, 86}, {86, 3}, {256, 256}, {256, 2}, {2, 256},
	{math.MaxInt, 1}, {1, math.MaxInt}, {math.MinInt, 1}, {1, math.MinInt}, {math.MaxInt, math.MaxInt}, {math.MinInt, math.MinInt}, {math.MinInt, -1}, {-1, math.MinInt},
	// Their squares are 0, 1 or 4 if they are counted with wraparound.
	{1 << 62, 4}, {4, 1 << 62}, {1 << 32, 1 << 32}, {1 << 31, 1 << 33}, {math.MinInt, 2}, {1<<62 + 1, 4}, {math.MinInt + 1, math.MinInt + 1},
}

// allSheets returns all sheets that are valid.
func allSheets() []Sheet {
	var out []Sheet
	for w := 1; w <= 256; w++ {
		for h := 1; h <= 256; h++ {
			if w*h <= 256 {
				out = append(out, Sheet{w, h})
			}
		}
	}
	return out
}

// someSheets returns small sheets, narrow ones, and large ones.
func someSheets() []Sheet {
	return []Sheet{{1, 1}, {2, 1}, {1, 2}, {2, 2}, {3, 2}, {2, 3}, {4, 1}, {1, 5}, {7, 6}, {5, 8}, {85, 3}, {2, 128}, {256, 1}, {1, 256}, {16, 16}}
}

// someNumbers returns numbers near 0, near n, and far away.
func someNumbers(n int) []int {
	return []int{0, 1, -1, -2, -4, n - 1, n, n + 1, n + 4, 2 * n, -n, 1 << 32, 1<<32 + 1, -1 << 32, 1 << 62, math.MaxInt, math.MaxInt - 3, math.MinInt, math.MinInt + 1}
}

// cell returns the cell of a quarter, which is S, E, N or W.
func cell(x, y int, quarter byte) api.Cell {
	return api.Cell{X: x, Y: y, Q: map[byte]uint8{'S': 0, 'E': 1, 'N': 2, 'W': 3}[quarter]}
}

// checkSlice checks that a function returns memory of its own in every call, without room behind its end, and returns what stood in it.
func checkSlice[E comparable](t *testing.T, s Sheet, call func(Sheet) ([]E, api.Errno)) []E {
	t.Helper()
	got, e := call(s)
	if e != api.OK || cap(got) != len(got) {
		t.Errorf("%v: error %d, length %d, capacity %d", s, e, len(got), cap(got))
	}
	was := slices.Clone(got)
	clear(got)
	if again, e := call(s); e != api.OK || !slices.Equal(again, was) {
		t.Errorf("%v: %v, %d, and before %v", s, again, e, was)
	}
	return was
}

func TestCheck(t *testing.T) { // P5.1
	for _, s := range allSheets() {
		if e := Check(s); e != api.OK {
			t.Errorf("%v: %d", s, e)
		}
	}
	for _, s := range badSheets {
		if e := Check(s); e != api.ErrArg {
			t.Errorf("%v: %d", s, e)
		}
	}
	for _, x := range []struct {
		s Sheet
		e api.Errno
	}{{Sheet{16, 16}, api.OK}, {Sheet{256, 1}, api.OK}, {Sheet{17, 16}, api.ErrArg}, {Sheet{0, 1}, api.ErrArg}} {
		if e := Check(x.s); e != x.e {
			t.Errorf("%v: %d, expected %d", x.s, e, x.e)
		}
	}
}

func TestCount(t *testing.T) { // P5.1
	if n := Count(Sheet{2, 1}); n != 8 {
		t.Errorf("2 by 1: %d", n)
	}
	for _, s := range allSheets() {
		if n := Count(s); n != 4*s.W*s.H {
			t.Errorf("%v: %d", s, n)
		}
	}
	for _, s := range badSheets {
		if n := Count(s); n != 0 {
			t.Errorf("%v: %d", s, n)
		}
	}
}

func TestBadSheets(t *testing.T) { // P5.1: the error of Check comes first, also before those of other arguments
	for _, s := range badSheets {
		if l, e := Units(s); e != api.ErrArg || len(l) != 0 {
			t.Errorf("Units of %v: %v, %d", s, l, e)
		}
		if l, e := Points(s); e != api.ErrArg || len(l) != 0 {
			t.Errorf("Points of %v: %v, %d", s, l, e)
		}
		if l, e := Cells(s); e != api.ErrArg || len(l) != 0 {
			t.Errorf("Cells of %v: %v, %d", s, l, e)
		}
		for _, n := range someNumbers(4) {
			if c, e := Cell(s, n); e != api.ErrArg || c != (api.Cell{}) {
				t.Errorf("Cell of %v, %d: %v, %d", s, n, c, e)
			}
			for q := range uint8(6) {
				checkBadSheet(t, s, n, q)
			}
		}
	}
}

// checkBadSheet checks what functions return that take a number, and an edge or a quarter.
func checkBadSheet(t *testing.T, s Sheet, n int, q uint8) {
	t.Helper()
	for _, c := range []api.Cell{{X: n, Q: q}, {Y: n, Q: q}, {X: n, Y: n, Q: q}} {
		if id, e := Id(s, c); e != api.ErrArg || id != 0 {
			t.Errorf("Id of %v, %v: %d, %d", s, c, id, e)
		}
	}
	if id, e := Neighbour(s, n, q); e != api.ErrArg || id != 0 {
		t.Errorf("Neighbour of %v, %d, %d: %d, %d", s, n, q, id, e)
	}
	if u, e := Name(s, n, q); e != api.ErrArg || u != (Unit{}) {
		t.Errorf("Name of %v, %d, %d: %v, %d", s, n, q, u, e)
	}
	if l, e := Line(s, Unit{n, q}); e != api.ErrArg || l != (api.Line{}) {
		t.Errorf("Line of %v, %d, %d: %v, %d", s, n, q, l, e)
	}
	if p, e := Ends(s, Unit{n, q}); e != api.ErrArg || p != [2]api.Point{} {
		t.Errorf("Ends of %v, %d, %d: %v, %d", s, n, q, p, e)
	}
}

// cellsInOrder returns the cells of a sheet in the order of their ids.
func cellsInOrder(s Sheet) []api.Cell {
	var out []api.Cell
	for y := range s.H {
		for x := range s.W {
			out = append(out, cell(x, y, 'S'), cell(x, y, 'E'), cell(x, y, 'N'), cell(x, y, 'W'))
		}
	}
	return out
}

func TestCellAndIdExamples(t *testing.T) { // P5.2
	for _, x := range []struct {
		s  Sheet
		id int
		c  api.Cell
	}{
		{Sheet{2, 1}, 5, cell(1, 0, 'E')}, {Sheet{2, 1}, 4, cell(1, 0, 'S')}, {Sheet{2, 1}, 0, cell(0, 0, 'S')}, {Sheet{2, 1}, 7, cell(1, 0, 'W')},
		{Sheet{1, 2}, 5, cell(0, 1, 'E')}, {Sheet{3, 2}, 12, cell(0, 1, 'S')}, {Sheet{3, 2}, 22, cell(2, 1, 'N')},
		{Sheet{16, 16}, 1023, cell(15, 15, 'W')}, {Sheet{256, 1}, 1023, cell(255, 0, 'W')}, {Sheet{1, 256}, 1020, cell(0, 255, 'S')},
	} {
		if c, e := Cell(x.s, x.id); e != api.OK || c != x.c {
			t.Errorf("%v, %d: %v, %d, expected %v", x.s, x.id, c, e, x.c)
		}
		if id, e := Id(x.s, x.c); e != api.OK || id != x.id {
			t.Errorf("%v, %v: %d, %d, expected %d", x.s, x.c, id, e, x.id)
		}
	}
}

func TestCellAndId(t *testing.T) { // P5.2
	for _, s := range someSheets() {
		for id, want := range cellsInOrder(s) {
			if c, e := Cell(s, id); e != api.OK || c != want {
				t.Errorf("%v, %d: %v, %d, expected %v", s, id, c, e, want)
			}
			if got, e := Id(s, want); e != api.OK || got != id {
				t.Errorf("%v, %v: %d, %d, expected %d", s, want, got, e, id)
			}
		}
	}
}

func TestCellErrors(t *testing.T) { // P5.2
	for _, s := range someSheets() {
		n := 4 * s.W * s.H
		for _, id := range someNumbers(n) {
			if 0 <= id && id < n {
				continue
			}
			if c, e := Cell(s, id); e != api.ErrNone || c != (api.Cell{}) {
				t.Errorf("%v, %d: %v, %d", s, id, c, e)
			}
		}
	}
}

func TestIdErrors(t *testing.T) { // P5.2
	for _, s := range someSheets() {
		for _, q := range []uint8{0, 1, 2, 3, 4, 5, 255} {
			for _, x := range append(someNumbers(s.W), 4096, -4096, 4097) {
				for _, y := range append(someNumbers(s.H), 4096, -4096, 4097) {
					if 0 <= x && x < s.W && 0 <= y && y < s.H && q < 4 {
						continue
					}
					c := api.Cell{X: x, Y: y, Q: q}
					if id, e := Id(s, c); e != api.ErrNone || id != 0 {
						t.Errorf("%v, %v: %d, %d", s, c, id, e)
					}
				}
			}
		}
	}
}

func TestCells(t *testing.T) { // P5.5
	for _, s := range someSheets() {
		got := checkSlice(t, s, Cells)
		if !slices.Equal(got, cellsInOrder(s)) {
			t.Errorf("%v: %v", s, got)
		}
		if !slices.IsSortedFunc(got, cells.Compare) { // ids ascend as the cells do
			t.Errorf("%v: %v does not ascend", s, got)
		}
	}
}

func TestPointsExamples(t *testing.T) { // P5.5
	for _, x := range []struct {
		s    Sheet
		want []api.Point
	}{
		{Sheet{1, 1}, []api.Point{{X: 1, Y: 1}}},
		{Sheet{2, 1}, []api.Point{{X: 1, Y: 1}, {X: 3, Y: 1}}},
		{Sheet{1, 2}, []api.Point{{X: 1, Y: 1}, {X: 1, Y: 3}}},
		{Sheet{2, 2}, []api.Point{{X: 1, Y: 1}, {X: 3, Y: 1}, {X: 2, Y: 2}, {X: 1, Y: 3}, {X: 3, Y: 3}}},
		{Sheet{3, 2}, []api.Point{{X: 1, Y: 1}, {X: 3, Y: 1}, {X: 5, Y: 1}, {X: 2, Y: 2}, {X: 4, Y: 2}, {X: 1, Y: 3}, {X: 3, Y: 3}, {X: 5, Y: 3}}},
	} {
		if got, e := Points(x.s); e != api.OK || !slices.Equal(got, x.want) {
			t.Errorf("%v: %v, %d, expected %v", x.s, got, e, x.want)
		}
	}
}

// innerPoints collects corners and middles of all squares, without the corners that do not lie strictly within the sheet.
func innerPoints(s Sheet) []api.Point {
	var out []api.Point
	for x := range s.W {
		for y := range s.H {
			out = append(out, api.Point{X: 2*x + 1, Y: 2*y + 1})
			if x > 0 && y > 0 {
				out = append(out, api.Point{X: 2 * x, Y: 2 * y})
			}
		}
	}
	slices.SortFunc(out, func(a, b api.Point) int { return (a.Y-b.Y)*10000 + a.X - b.X })
	return out
}

func TestPoints(t *testing.T) { // P5.5
	for _, s := range someSheets() {
		if got := checkSlice(t, s, Points); !slices.Equal(got, innerPoints(s)) {
			t.Errorf("%v: %v", s, got)
		}
	}
}
