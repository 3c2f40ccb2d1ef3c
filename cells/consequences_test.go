package cells

import (
	"testing"

	"crimp/api"
	"crimp/lines"
	"crimp/moves"
)

// These tests are for P3.7: what follows from the other promises.

func TestBothSidesOfEdges(t *testing.T) {
	for _, c := range block(-5, 5) {
		for edge := range uint8(3) {
			n, e := Neighbour(c, edge)
			l, f := Line(c, edge)
			if e != api.OK || f != api.OK {
				t.Fatalf("%v, %d: %d, %d", c, edge, e, f)
			}
			if back, e := Neighbour(n, edge); e != api.OK || back != c {
				t.Errorf("%v, %d: %v, and back %v, %d", c, edge, n, back, e)
			}
			if same, e := Line(n, edge); e != api.OK || same != l {
				t.Errorf("%v, %d: %v, and of %v %v, %d", c, edge, l, n, same, e)
			}
			if mine, other := ends(c, edge), ends(n, edge); mine != other {
				t.Errorf("%v, %v: at the edge %d are the corners %v and %v", c, n, edge, mine, other)
			}
			low, _ := Side(l, c)
			high, _ := Side(l, n)
			if low+high != 1 {
				t.Errorf("%v and %v lie on the sides %d and %d of %v", c, n, low, high, l)
			}
		}
	}
}

// ends returns the two corners at an edge, first the one further to the left, or below. (Their numbers may differ on both sides of the edge.)
func ends(c api.Cell, edge uint8) [2]api.Point {
	at, _ := Corners(c)
	p, q := at[(edge+1)%3], at[(edge+2)%3]
	if p.X > q.X || p.X == q.X && p.Y > q.Y {
		p, q = q, p
	}
	return [2]api.Point{p, q}
}

func TestReflectionsOfNeighbours(t *testing.T) {
	for _, c := range block(-5, 5) {
		for edge := range uint8(3) {
			n, _ := Neighbour(c, edge)
			l, _ := Line(c, edge)
			m, _ := moves.Of(l)
			to, e := Move(m, c)
			from, f := Move(m, n)
			if e != api.OK || f != api.OK || to != n || from != c {
				t.Errorf("%v, %d: %v, %d, and %v, %d", c, edge, to, e, from, f)
			}
			if only, e := Between(c, n); e != api.OK || only != m {
				t.Errorf("%v, %v: %v, %d, expected %v", c, n, only, e, m)
			}
		}
	}
}

func TestOneMoveBetween(t *testing.T) {
	all := block(-1, 1)
	for _, a := range all {
		found := map[api.Cell][]moves.Move{}
		for turn := range uint8(8) {
			for x := -6; x <= 6; x++ {
				for y := -6; y <= 6; y++ {
					m := moves.Move{Turn: turn, X: x, Y: y}
					if to, e := Move(m, a); e == api.OK {
						found[to] = append(found[to], m)
					}
				}
			}
		}
		for _, b := range all {
			m, e := Between(a, b)
			if e != api.OK || len(found[b]) != 1 || found[b][0] != m {
				t.Errorf("%v, %v: %v, %d, and found were %v", a, b, m, e, found[b])
			}
		}
	}
}

func TestMovesOneAfterAnother(t *testing.T) {
	near := block(-1, 1)
	for _, a := range near {
		for _, b := range near {
			first, _ := Between(a, b)
			back, e := moves.Inverse(first)
			if other, f := Between(b, a); e != api.OK || f != api.OK || other != back {
				t.Errorf("%v, %v: %v, and back %v", a, b, first, other)
			}
			for _, c := range near {
				second, _ := Between(b, c)
				both, e := moves.Then(first, second)
				if once, f := Between(a, c); e != api.OK || f != api.OK || once != both {
					t.Errorf("%v, %v, %v: %v, and at once %v", a, b, c, both, once)
				}
			}
		}
	}
}

func TestMovesKeepNeighbours(t *testing.T) {
	exchanged, kept := 0, 0
	for _, m := range someMoves() {
		for _, c := range someCells() {
			to, e := Move(m, c)
			if e != api.OK {
				continue
			}
			for edge := range uint8(3) {
				n, e := Neighbour(c, edge)
				other, f := Move(m, n)
				if e != api.OK || f != api.OK {
					continue
				}
				got, e := Touch(to, other)
				switch {
				case e != api.OK || (got == 0) != (edge == 0):
					t.Errorf("%v: %v and %v go to %v and %v: %d, %d", m, c, n, to, other, got, e)
				case got != edge:
					exchanged++
				case edge != 0:
					kept++
				}
			}
		}
	}
	if exchanged == 0 || kept == 0 {
		t.Errorf("edges 1 and 2 were exchanged %d times and kept %d times", exchanged, kept)
	}
}

func TestSidesOfCorners(t *testing.T) {
	for _, l := range allLines(-4, 4) {
		for _, c := range block(-3, 3) {
			side, e := Side(l, c)
			at, _ := Corners(c)
			off := 0
			for _, p := range at {
				if s := lines.Side(l, p); s != 0 {
					off++
					if e != api.OK || s != 2*side-1 {
						t.Errorf("%v, %v: %d, %d, but the corner %v lies on the side %d", l, c, side, e, p, s)
					}
				}
			}
			if off == 0 {
				t.Errorf("%v, %v: all corners lie on the line", l, c)
			}
		}
	}
}
