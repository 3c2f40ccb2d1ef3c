package faces

import (
	"slices"
	"testing"

	"crimp/api"
	"crimp/patterns"
	"crimp/sheets"
)

// These tests are for P8.5: what follows from the other promises.

// sheetsWithLines are the sheets whose halves are looked at.
var sheetsWithLines = []sheets.Sheet{{W: 1, H: 1}, {W: 2, H: 1}, {W: 2, H: 2}, {W: 3, H: 2}, {W: 2, H: 5}, {W: 7, H: 1}, {W: 16, H: 16}}

func TestSums(t *testing.T) {
	for _, p := range somePatterns() {
		sizes, e := Sizes(p)
		sum := 0
		for _, n := range sizes {
			sum += n
		}
		if e != api.OK || sum != sheets.Count(p.Sheet) {
			t.Errorf("%v: the sizes are together %d, %d", p, sum, e)
		}
		joints, e := Graph(p)
		sum = 0
		for _, j := range joints {
			sum += j.Units
		}
		if e != api.OK || sum != len(p.Creases) {
			t.Errorf("%v: the joints have together %d creases, %d", p, sum, e)
		}
	}
}

func TestFewestAndMostFaces(t *testing.T) {
	for _, s := range append(sheetsWithLines, sheets.Sheet{W: 256, H: 1}, sheets.Sheet{W: 1, H: 256}) {
		if got := convexFaces(t, patterns.Pattern{Sheet: s}); !slices.Equal(got, []bool{true}) {
			t.Errorf("%v without creases: %v", s, got)
		}
		l, e := Of(full(s))
		if e != api.OK || len(l) != sheets.Count(s) {
			t.Errorf("%v: %d cells, %d", s, len(l), e)
		}
		for id, face := range l {
			if face != id {
				t.Errorf("%v: the cell %d is in the face %d", s, id, face)
			}
		}
		if s.W*s.H < 20 && slices.Contains(convexFaces(t, full(s)), false) {
			t.Errorf("%v: a cell is not convex", s)
		}
	}
}

func TestKindsDoNotMatter(t *testing.T) {
	for _, p := range largePatterns() {
		q := patterns.Pattern{Sheet: p.Sheet, Creases: slices.Clone(p.Creases)}
		for i := range q.Creases {
			q.Creases[i].Kind = q.Creases[i].Kind%3 + 1
		}
		a, e := Of(p)
		b, f := Of(q)
		if e != api.OK || f != api.OK || !slices.Equal(a, b) {
			t.Errorf("%v: %v, %d, and with other kinds %v, %d", p, a, e, b, f)
		}
		j, e := Graph(p)
		k, f := Graph(q)
		if e != api.OK || f != api.OK || !slices.Equal(j, k) {
			t.Errorf("%v: %v, %d, and with other kinds %v, %d", p, j, e, k, f)
		}
	}
}

func TestSidesOfLinesAreConvex(t *testing.T) {
	for _, s := range sheetsWithLines {
		for kind := api.V; kind <= api.D; kind++ {
			for c := -s.W; c <= s.W+s.H; c++ {
				line := api.Line{Kind: kind, C: c}
				p := chosen(s, func(_ int, u sheets.Unit) api.Kind {
					if l, _ := sheets.Line(s, u); l == line {
						return api.Valley
					}
					return 0
				})
				want := []bool{true, true}
				if len(p.Creases) == 0 { // the line does not cross the sheet
					want = []bool{true}
				}
				if got := convexFaces(t, p); !slices.Equal(got, want) {
					t.Errorf("%v, %v: %v", s, line, got)
				}
			}
		}
	}
}

// sector is an eighth of a turn around a point: directions as in layer 9, from this one to the next.
type sector struct {
	at  api.Point
	dir int
}

// sectorsOf returns which sectors around its corners a face fills.
func sectorsOf(s sheets.Sheet, ids []int) map[sector]bool {
	out := map[sector]bool{}
	for _, id := range ids {
		x, y, q := 2*(id/4%s.W), 2*(id/4/s.W), id%4
		// South of the middle are the sectors 5 and 6, and so on, turning left.
		out[sector{api.Point{X: x + 1, Y: y + 1}, (5 + 2*q) % 8}] = true
		out[sector{api.Point{X: x + 1, Y: y + 1}, (6 + 2*q) % 8}] = true
		around := [4]api.Point{{X: x, Y: y}, {X: x + 2, Y: y}, {X: x + 2, Y: y + 2}, {X: x, Y: y + 2}}
		out[sector{around[q], 2 * q}] = true
		out[sector{around[(q+1)%4], (3 + 2*q) % 8}] = true
	}
	return out
}

// isInwards reports whether a face has a corner at a point that is turned inwards, or touches itself there.
func isInwards(filled map[sector]bool, at api.Point) bool {
	count, begins := 0, 0
	for dir := range 8 {
		if filled[sector{at, dir}] {
			count++
			if !filled[sector{at, (dir + 7) % 8}] {
				begins++
			}
		}
	}
	return begins > 1 || count > 4 && count < 8
}

func TestFacesThatAreNotConvex(t *testing.T) { // a hole has corners, which are turned inwards too
	for _, p := range somePatterns() {
		_, members := facesOf(p)
		if len(members) > 300 {
			continue
		}
		for face, is := range convexFaces(t, p) {
			filled := sectorsOf(p.Sheet, members[face])
			inwards := false
			for at := range filled {
				inwards = inwards || isInwards(filled, at.at)
			}
			if is == inwards {
				t.Errorf("%v: the face %d, %v: %t", p, face, members[face], is)
			}
		}
	}
}
