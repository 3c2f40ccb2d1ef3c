package sheets

import (
	"testing"

	"crimp/api"
	"crimp/cells"
)

// These tests are for P5.6: what follows from the other promises.

func TestCellAndIdAreInverse(t *testing.T) {
	for _, s := range someSheets() {
		for id := range Count(s) {
			c, e := Cell(s, id)
			if back, f := Id(s, c); e != api.OK || f != api.OK || back != id {
				t.Errorf("%v: %d is %v, %d, and back %d, %d", s, id, c, e, back, f)
			}
		}
		for x := range s.W {
			for y := range s.H {
				for q := range uint8(4) {
					c := api.Cell{X: x, Y: y, Q: q}
					id, e := Id(s, c)
					if back, f := Cell(s, id); e != api.OK || f != api.OK || back != c {
						t.Errorf("%v: %v is %d, %d, and back %v, %d", s, c, id, e, back, f)
					}
				}
			}
		}
	}
}

func TestNumberOfUnits(t *testing.T) {
	for _, s := range allSheets() {
		if l, e := Units(s); e != api.OK || len(l) != 6*s.W*s.H-s.W-s.H {
			t.Errorf("%v: %d units, %d", s, len(l), e)
		}
	}
}

func TestCellsOfUnitsAreNeighbours(t *testing.T) {
	for _, s := range someSheets() {
		l, _ := Units(s)
		for _, u := range l {
			other, e := Neighbour(s, u.Cell, u.Edge)
			back, f := Neighbour(s, other, u.Edge)
			if e != api.OK || f != api.OK || other <= u.Cell || back != u.Cell {
				t.Errorf("%v, %v: %d, %d, and back %d, %d", s, u, other, e, back, f)
			}
			one, e := Name(s, u.Cell, u.Edge)
			two, f := Name(s, other, u.Edge)
			if e != api.OK || f != api.OK || one != u || two != u {
				t.Errorf("%v, %v: the names are %v, %d and %v, %d", s, u, one, e, two, f)
			}
			a, _ := Cell(s, u.Cell)
			b, _ := Cell(s, other)
			if edge, e := cells.Touch(a, b); e != api.OK || edge != u.Edge {
				t.Errorf("%v, %v: %v touches %v at %d, %d", s, u, a, b, edge, e)
			}
			line, e := Line(s, u)
			if l, f := cells.Line(b, u.Edge); e != api.OK || f != api.OK || l != line {
				t.Errorf("%v, %v: %v, %d, but %v, %d from the other side", s, u, line, e, l, f)
			}
		}
	}
}

// isMiddle reports whether a point is the middle of a square, and isCorner whether it is the corner of one.
func isMiddle(p api.Point) bool { return p.X%2 == 1 && p.Y%2 == 1 }
func isCorner(p api.Point) bool { return p.X%2 == 0 && p.Y%2 == 0 }

func TestEndsAreMiddlesAndCorners(t *testing.T) {
	for _, s := range someSheets() {
		l, _ := Units(s)
		for _, u := range l {
			p, e := Ends(s, u)
			a, b := p[0], p[1]
			if e != api.OK || a.X > b.X || a.X == b.X && a.Y >= b.Y {
				t.Errorf("%v, %v: %v, %d", s, u, p, e)
			}
			both := isCorner(a) && isCorner(b)
			one := isMiddle(a) && isCorner(b) || isCorner(a) && isMiddle(b)
			if both != (u.Edge == 0) || one != (u.Edge != 0) {
				t.Errorf("%v, %v: %v", s, u, p)
			}
		}
	}
}

func TestUnitsThatEndAtPoints(t *testing.T) {
	for _, s := range someSheets() {
		ending := map[api.Point]int{}
		l, _ := Units(s)
		for _, u := range l {
			p, _ := Ends(s, u)
			ending[p[0]]++
			ending[p[1]]++
		}
		points, e := Points(s)
		if e != api.OK || len(points) != s.W*s.H+(s.W-1)*(s.H-1) {
			t.Errorf("%v: %d points, %d", s, len(points), e)
		}
		for _, p := range points {
			want := 8
			if isMiddle(p) {
				want = 4
			}
			if ending[p] != want {
				t.Errorf("%v: at %v end %d units", s, p, ending[p])
			}
		}
	}
}
