package faces

import (
	"cmp"
	"slices"
	"testing"

	"crimp/api"
	"crimp/patterns"
	"crimp/sheets"
)

// convexFaces returns which faces of a pattern are convex.
func convexFaces(t *testing.T, p patterns.Pattern) []bool {
	t.Helper()
	n, e := Count(p)
	if e != api.OK {
		t.Fatalf("%v: %d", p, e)
	}
	out := make([]bool, n)
	for face := range out {
		is, e := Convex(p, face)
		if e != api.OK {
			t.Fatalf("%v, %d: %d", p, face, e)
		}
		out[face] = is
	}
	return out
}

func TestConvexExamples(t *testing.T) { // P8.4
	three := sheets.Sheet{W: 3, H: 1}
	for _, x := range []struct {
		sheet sheets.Sheet
		text  string
		want  []bool
	}{
		{two, "", []bool{true}}, {two, "m x 1 0 2", []bool{true, true}}, {two, "m u 1 0 2", []bool{true, true}},
		// The middle of the left square is a corner that is turned inwards.
		{two, "m u 1 1 2; m d 0 0 1", []bool{true, false}},
		// Between the two tips of the lower face the middle of the sheet is turned inwards, in the upper one the middles of squares are.
		{four, "m u 2 1 2; m d 1 0 1; m u 3 3 4; m d 0 2 3", []bool{false, false}},
		{four, "m x 1 2 4; m y 1 2 4", []bool{false, true}},
		// Creases that end within a face do not matter, also if they go a long way around a part of it.
		{two, "m u 1 1 2", []bool{true}}, {four, "m x 1 0 2", []bool{true}}, {four, "m x 1 0 2; m u 2 2 3", []bool{true}}, {four, "m u 1 1 2; m u 3 2 3; m d -1 2 3; m d 1 1 2", []bool{true}}, {two, "m x 1 0 2; m u 1 1 2", []bool{true, true}},
		// A hole that does not reach the border, a square on its tip that touches it at four points, and one that does so at three.
		{sheets.Sheet{W: 3, H: 3}, "m x 1 2 4; m x 2 2 4; m y 1 2 4; m y 2 2 4", []bool{false, true}},
		{four, "m u 1 0 2; m u 3 2 4; m d -1 2 4; m d 1 0 2", []bool{true, true, true, true, true}},
		{sheets.Sheet{W: 3, H: 2}, "m u 1 0 2; m u 3 2 4; m d -1 2 4; m d 1 0 2", []bool{true, true, false, true}},
		// A parallelogram between a trapezium and a triangle, and a trapezium between two triangles.
		{three, "m u 2 2 4; m u 3 4 6", []bool{true, true, true}}, {three, "m u 1 0 2; m d -2 4 6", []bool{true, true, true}},
		// The right square lacks a quarter.
		{two, "m u 2 3 4; m d -1 3 4", []bool{false, true}}, {two, "m x 1 0 2; m u 2 3 4; m d -1 3 4", []bool{true, false, true}},
	} {
		p := pattern(t, x.sheet, x.text)
		if got := convexFaces(t, p); !slices.Equal(got, x.want) {
			t.Errorf("%s: %v, expected %v", x.text, got, x.want)
		}
	}
}

// pointsOf returns the corners of cells of a sheet: the middle of the square, and two corners of it.
func pointsOf(s sheets.Sheet, ids []int) []api.Point {
	var out []api.Point
	for _, id := range ids {
		x, y := 2*(id/4%s.W), 2*(id/4/s.W)
		around := [4]api.Point{{X: x, Y: y}, {X: x + 2, Y: y}, {X: x + 2, Y: y + 2}, {X: x, Y: y + 2}}
		out = append(out, api.Point{X: x + 1, Y: y + 1}, around[id%4], around[(id+1)%4])
	}
	return out
}

// doubleHull returns twice the area of the convex hull of some points.
func doubleHull(l []api.Point) int {
	slices.SortFunc(l, func(a, b api.Point) int { return cmp.Or(cmp.Compare(a.X, b.X), cmp.Compare(a.Y, b.Y)) })
	area := 0
	// Both ways along the points lead around the hull: below it and back above it.
	for range 2 {
		var side []api.Point
		for _, p := range l {
			for n := len(side); n >= 2 && cross(side[n-2], side[n-1], p) <= 0; n = len(side) {
				side = side[:n-1]
			}
			side = append(side, p)
		}
		for i := 1; i < len(side); i++ {
			area += cross(api.Point{}, side[i-1], side[i])
		}
		slices.Reverse(l)
	}
	return area
}

// cross returns twice the area of a triangle, which is positive if its corners turn left.
func cross(a, b, c api.Point) int { return (b.X-a.X)*(c.Y-a.Y) - (b.Y-a.Y)*(c.X-a.X) }

func TestConvex(t *testing.T) { // P8.4: a face is convex exactly if it fills its convex hull
	for _, p := range somePatterns() {
		_, members := facesOf(p)
		if len(members) > 300 {
			continue // such patterns have hardly any other faces than those of small sheets
		}
		for face, is := range convexFaces(t, p) {
			// In halves, twice the area of a cell is 2.
			if want := doubleHull(pointsOf(p.Sheet, members[face])) == 2*len(members[face]); is != want {
				t.Errorf("%v: the face %d, %v: %t", p, face, members[face], is)
			}
		}
	}
}
