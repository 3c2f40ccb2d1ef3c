package corners

import (
	"cmp"
	"math"
	"slices"
	"testing"

	"crimp/api"
	"crimp/cells"
	"crimp/patterns"
	"crimp/sheets"
)

// four is the sheet of the examples.
var four = sheets.Sheet{W: 2, H: 2}

// someSheets are small sheets, narrow ones, and large ones.
var someSheets = []sheets.Sheet{{W: 1, H: 1}, {W: 2, H: 1}, {W: 1, H: 2}, {W: 2, H: 2}, {W: 3, H: 2}, {W: 2, H: 5}, {W: 4, H: 4}, {W: 16, H: 16}, {W: 256, H: 1}, {W: 1, H: 256}}

// badSheets are sheets that are not valid.
var badSheets = []sheets.Sheet{
	{}, {W: 0, H: 1}, {W: 1, H: 0}, {W: -1, H: -1}, {W: 257, H: 1}, {W: 17, H: 16},
	{W: math.MaxInt, H: 1}, {W: 1, H: math.MinInt}, {W: 1 << 32, H: 1 << 32},
}

// farPoints are no corners of any sheet.
var farPoints = []api.Point{
	{}, {X: -1, Y: 1}, {X: 1, Y: -1}, {X: -1, Y: -1}, {X: -2, Y: 2}, {X: 513, Y: 1}, {X: 1, Y: 513}, {X: 512, Y: 2},
	{X: 1 << 32, Y: 2}, {X: 1<<32 + 1, Y: 1}, {X: 1 << 62, Y: 1 << 62}, {X: math.MaxInt, Y: 1}, {X: 1, Y: math.MinInt}, {X: math.MinInt, Y: math.MaxInt}, {X: math.MaxInt, Y: math.MaxInt}, {X: math.MinInt, Y: math.MinInt},
}

// cornersOf returns the points strictly within a sheet whose coordinates are both even or both odd, by Y and then by X.
func cornersOf(s sheets.Sheet) []api.Point {
	var out []api.Point
	for y := 1; y < 2*s.H; y++ {
		for x := 1; x < 2*s.W; x++ {
			if (x+y)%2 == 0 {
				out = append(out, api.Point{X: x, Y: y})
			}
		}
	}
	return out
}

// checkSlice checks that a call returns memory of its own every time, without room behind its end, and returns what stood in the result.
func checkSlice[E comparable](t *testing.T, call func() ([]E, api.Errno)) []E {
	t.Helper()
	got, e := call()
	if e != api.OK || cap(got) != len(got) {
		t.Fatalf("error %d, length %d, capacity %d", e, len(got), cap(got))
	}
	was := slices.Clone(got)
	clear(got)
	if again, e := call(); e != api.OK || !slices.Equal(again, was) {
		t.Fatalf("%v, %d, and before %v", again, e, was)
	}
	return was
}

func TestAll(t *testing.T) { // P9.1
	want := []api.Point{{X: 1, Y: 1}, {X: 3, Y: 1}, {X: 2, Y: 2}, {X: 1, Y: 3}, {X: 3, Y: 3}}
	if got, e := All(four); e != api.OK || !slices.Equal(got, want) {
		t.Errorf("the example: %v, %d", got, e)
	}
	for w := 1; w <= api.MaxSquares; w++ {
		for h := 1; w*h <= api.MaxSquares; h++ {
			s := sheets.Sheet{W: w, H: h}
			got := checkSlice(t, func() ([]api.Point, api.Errno) { return All(s) })
			if !slices.Equal(got, cornersOf(s)) {
				t.Errorf("%v: %v", s, got)
			}
		}
	}
}

func TestAroundExamples(t *testing.T) { // P9.2
	for _, x := range []struct {
		at   api.Point
		want []int
	}{
		{api.Point{X: 1, Y: 1}, []int{2, 3, 0, 1}},
		{api.Point{X: 3, Y: 3}, []int{14, 15, 12, 13}},
		{api.Point{X: 2, Y: 2}, []int{12, 15, 9, 8, 2, 1, 7, 6}},
	} {
		if got, e := Around(four, x.at); e != api.OK || !slices.Equal(got, x.want) {
			t.Errorf("%v: %v, %d, expected %v", x.at, got, e, x.want)
		}
	}
}

// bearing returns how far one turns left from the direction 0, or in the middle of a square from the direction 1, to the middle of a cell that has a corner at a point.
func bearing(at api.Point, c api.Cell) float64 {
	points, _ := cells.Corners(c)
	x, y := -3*at.X, -3*at.Y
	for _, p := range points {
		x, y = x+p.X, y+p.Y
	}
	angle := math.Atan2(float64(y), float64(x))
	if at.X%2 == 1 {
		angle -= math.Pi / 4
	}
	if angle < 0 {
		angle += 2 * math.Pi
	}
	return angle
}

// around returns the cells of a sheet that have a corner at a point, by their bearings.
func around(s sheets.Sheet, at api.Point) []int {
	bearings := map[int]float64{}
	var out []int
	all, _ := sheets.Cells(s)
	for id, c := range all {
		if points, _ := cells.Corners(c); slices.Contains(points[:], at) {
			bearings[id] = bearing(at, c)
			out = append(out, id)
		}
	}
	slices.SortFunc(out, func(a, b int) int { return cmp.Compare(bearings[a], bearings[b]) })
	return out
}

func TestAround(t *testing.T) { // P9.2
	for _, s := range someSheets {
		for _, at := range cornersOf(s) {
			want := around(s, at)
			got := checkSlice(t, func() ([]int, api.Errno) { return Around(s, at) })
			if !slices.Equal(got, want) {
				t.Errorf("%v, %v: %v, expected %v", s, at, got, want)
			}
		}
	}
}

// expectError checks that all functions that look at a corner return an error, and nothing else. Around is asked about the sheet, unless only the creases are wrong.
func expectError(t *testing.T, p patterns.Pattern, at api.Point, want api.Errno) {
	t.Helper()
	if sheets.Check(p.Sheet) != api.OK || want == api.ErrNone && patterns.Check(p) == api.OK {
		if l, e := Around(p.Sheet, at); e != want || len(l) != 0 {
			t.Errorf("Around %v, %v: %v, %d, expected the error %d", p.Sheet, at, l, e, want)
		}
	}
	if l, e := Creases(p, at); e != want || len(l) != 0 {
		t.Errorf("Creases of %v at %v: %v, %d, expected the error %d", p, at, l, e, want)
	}
	if n, e := Degree(p, at); e != want || n != 0 {
		t.Errorf("Degree of %v at %v: %d, %d, expected the error %d", p, at, n, e, want)
	}
	if is, e := Straight(p, at); e != want || is {
		t.Errorf("Straight of %v at %v: %t, %d, expected the error %d", p, at, is, e, want)
	}
	if l, e := Angles(p, at); e != want || len(l) != 0 {
		t.Errorf("Angles of %v at %v: %v, %d, expected the error %d", p, at, l, e, want)
	}
}

func TestNoCorner(t *testing.T) { // P9.2 to P9.4: ErrNone
	for _, s := range someSheets {
		p := every(s, api.Valley)
		is := cornersOf(s)
		points := slices.Clone(farPoints)
		for y := -1; y <= min(2*s.H+1, 7); y++ {
			for x := -1; x <= min(2*s.W+1, 7); x++ {
				points = append(points, api.Point{X: x, Y: y}, api.Point{X: 2*s.W - x, Y: 2*s.H - y})
			}
		}
		for _, at := range points {
			if !slices.Contains(is, at) {
				expectError(t, p, at, api.ErrNone)
			}
		}
	}
}

func TestBadSheets(t *testing.T) { // the error of sheets.Check comes first
	for _, s := range badSheets {
		if l, e := All(s); e != api.ErrArg || len(l) != 0 {
			t.Errorf("All of %v: %v, %d", s, l, e)
		}
		for _, at := range append(farPoints, api.Point{X: 1, Y: 1}, api.Point{X: 2, Y: 2}) {
			expectError(t, patterns.Pattern{Sheet: s}, at, api.ErrArg)
			expectError(t, patterns.Pattern{Sheet: s, Creases: []patterns.Crease{crease(1, 0), crease(0, 0)}}, at, api.ErrArg)
		}
	}
}

func TestBadCreases(t *testing.T) { // the error of patterns.Check comes before ErrNone
	for _, x := range []struct {
		creases []patterns.Crease
		want    api.Errno
	}{
		{[]patterns.Crease{{Cell: 1, Edge: 0}}, api.ErrArg},
		{[]patterns.Crease{{Cell: 1, Edge: 0, Kind: 4}}, api.ErrArg},
		{[]patterns.Crease{crease(0, 0), {Cell: 1, Edge: 0, Kind: 255}}, api.ErrArg},
		{[]patterns.Crease{crease(0, 0)}, api.ErrNone}, // at the border
		{[]patterns.Crease{crease(0, 3)}, api.ErrNone},
		{[]patterns.Crease{crease(7, 0)}, api.ErrNone}, // its name is 1 0
		{[]patterns.Crease{crease(-1, 1)}, api.ErrNone},
		{[]patterns.Crease{crease(16, 1)}, api.ErrNone},
		{[]patterns.Crease{crease(math.MaxInt, 1)}, api.ErrNone},
		{[]patterns.Crease{crease(math.MinInt, 255)}, api.ErrNone},
		{[]patterns.Crease{crease(0, 2), crease(0, 1)}, api.ErrState},
		{[]patterns.Crease{crease(1, 0), crease(1, 0)}, api.ErrState},
	} {
		for _, at := range append(farPoints, cornersOf(four)...) {
			expectError(t, patterns.Pattern{Sheet: four, Creases: x.creases}, at, x.want)
		}
	}
}
