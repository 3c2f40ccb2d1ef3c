package corners

import (
	"cmp"
	"slices"
	"testing"

	"crimp/api"
	"crimp/patterns"
	"crimp/sheets"
)

// These tests are for P9.5: what follows from the other promises.

func TestCellsAroundAreNeighbours(t *testing.T) {
	for _, s := range someSheets {
		points, _ := All(s)
		for _, at := range points {
			ids, e := Around(s, at)
			n := 8
			if at.X%2 == 1 {
				n = 4
			}
			if e != api.OK || len(ids) != n {
				t.Fatalf("%v, %v: %v, %d", s, at, ids, e)
			}
			for i, id := range ids {
				next, touch := ids[(i+1)%n], false
				for edge := range uint8(3) {
					behind, e := sheets.Neighbour(s, id, edge)
					touch = touch || e == api.OK && behind == next
				}
				if !touch {
					t.Errorf("%v, %v: %d and %d of %v are no neighbours", s, at, id, next, ids)
				}
			}
		}
	}
}

// smallPatterns returns those of somePatterns in which looking at all corners does not take long.
func smallPatterns() []patterns.Pattern {
	return slices.DeleteFunc(somePatterns(), func(p patterns.Pattern) bool { return p.Sheet.W*p.Sheet.H > 100 && len(p.Creases) > 500 })
}

func TestSumOfAngles(t *testing.T) {
	for _, p := range smallPatterns() {
		for _, at := range cornersOf(p.Sheet) {
			l, e := Angles(p, at)
			sum := 0
			for _, angle := range l {
				sum += angle
			}
			want := 8
			if n, _ := Degree(p, at); n == 0 {
				want = 0
			}
			if e != api.OK || sum != want {
				t.Errorf("%v at %v: %v, %d", p, at, l, e)
			}
		}
	}
}

// raysOf returns the rays at all corners of a pattern.
func raysOf(t *testing.T, p patterns.Pattern) map[api.Point][]Ray {
	t.Helper()
	out := map[api.Point][]Ray{}
	for _, at := range cornersOf(p.Sheet) {
		l, e := Creases(p, at)
		if e != api.OK {
			t.Fatalf("%v at %v: %d", p, at, e)
		}
		out[at] = l
	}
	return out
}

func TestUnitsBetweenCorners(t *testing.T) {
	for _, p := range smallPatterns() {
		rays := raysOf(t, p)
		left := 0
		for _, l := range rays {
			left += len(l)
		}
		for _, c := range p.Creases {
			ends, _ := sheets.Ends(p.Sheet, sheets.Unit{Cell: c.Cell, Edge: c.Edge})
			// The first end is the left one, or the lower one: the unit leaves it to the right, or upwards.
			dir := 2
			if ends[0].X < ends[1].X {
				dir = (8 + cmp.Compare(ends[1].Y, ends[0].Y)) % 8
			}
			for i, at := range ends {
				l, is := rays[at]
				if !is { // the unit ends at the edge of the sheet
					continue
				}
				left--
				if !slices.Contains(l, Ray{(dir + 4*i) % 8, c.Kind}) {
					t.Errorf("%v: the crease %v is none of %v at %v", p.Sheet, c, l, at)
				}
			}
		}
		if left != 0 {
			t.Errorf("%v: %d rays more than ends of creases", p, left)
		}
	}
}

func TestBackSide(t *testing.T) {
	for _, p := range smallPatterns() {
		turned, e := patterns.Turned(p)
		if e != api.OK {
			t.Fatalf("%v: %d", p, e)
		}
		back := raysOf(t, turned)
		for at, l := range raysOf(t, p) {
			var want []Ray
			for _, x := range l {
				kind := map[api.Kind]api.Kind{api.Mountain: api.Valley, api.Valley: api.Mountain, api.Any: api.Any}[x.Kind]
				want = append(want, Ray{(12 - x.Dir) % 8, kind})
			}
			slices.SortFunc(want, func(a, b Ray) int { return cmp.Compare(a.Dir, b.Dir) })
			if got := back[api.Point{X: 2*p.Sheet.W - at.X, Y: at.Y}]; !slices.Equal(got, want) {
				t.Errorf("%v at %v: %v, from the back side %v", p, at, l, got)
			}
		}
	}
}
