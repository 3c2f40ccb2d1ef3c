package faces

import (
	"math"
	"math/rand"
	"slices"
	"strings"
	"testing"

	"crimp/api"
	"crimp/patterns"
	"crimp/segments"
	"crimp/sheets"
)

// The sheets of the examples.
var (
	two  = sheets.Sheet{W: 2, H: 1}
	four = sheets.Sheet{W: 2, H: 2}
)

// badSheets are sheets that are not valid.
var badSheets = []sheets.Sheet{
	{}, {W: 0, H: 1}, {W: 1, H: 0}, {W: -1, H: -1}, {W: 257, H: 1}, {W: 17, H: 16},
	{W: math.MaxInt, H: 1}, {W: 1, H: math.MinInt}, {W: 1 << 32, H: 1 << 32},
}

// farFaces are numbers that no face has.
var farFaces = []int{-1, -2, -1024, 1024, 1 << 32, -1 << 32, 1 << 62, math.MaxInt, math.MinInt}

// unit returns a crease of the kind Any.
func unit(cell int, edge uint8) patterns.Crease {
	return patterns.Crease{Cell: cell, Edge: edge, Kind: api.Any}
}

// pattern returns the pattern with the segments whose texts stand in l, divided by semicolons.
func pattern(t *testing.T, s sheets.Sheet, l string) patterns.Pattern {
	t.Helper()
	var out []segments.Segment
	for w := range strings.SplitSeq(l, "; ") {
		if w == "" {
			continue
		}
		x, e := segments.Parse(w)
		if e != api.OK {
			t.Fatalf("%q: %d", w, e)
		}
		out = append(out, x)
	}
	p, i, e := segments.Pattern(s, out)
	if e != api.OK {
		t.Fatalf("%s: %d, %d", l, i, e)
	}
	return p
}

// chosen returns the pattern of a sheet with a crease on each unit for which choose returns a kind.
func chosen(s sheets.Sheet, choose func(i int, u sheets.Unit) api.Kind) patterns.Pattern {
	p := patterns.Pattern{Sheet: s}
	units, _ := sheets.Units(s)
	for i, u := range units {
		if k := choose(i, u); k != 0 {
			p.Creases = append(p.Creases, patterns.Crease{Cell: u.Cell, Edge: u.Edge, Kind: k})
		}
	}
	return p
}

// full returns the pattern in which every unit is a crease.
func full(s sheets.Sheet) patterns.Pattern {
	return chosen(s, func(int, sheets.Unit) api.Kind { return api.Mountain })
}

// smallPatterns returns all patterns of the smallest sheets, as far as their faces can differ.
func smallPatterns() []patterns.Pattern {
	var out []patterns.Pattern
	for _, s := range []sheets.Sheet{{W: 1, H: 1}, {W: 2, H: 1}, {W: 1, H: 2}} {
		units, _ := sheets.Units(s)
		for bits := range 1 << len(units) {
			out = append(out, chosen(s, func(i int, _ sheets.Unit) api.Kind {
				return api.Valley * api.Kind(bits>>i&1)
			}))
		}
	}
	return out
}

// largePatterns returns patterns of larger sheets, with few creases and with many ones.
func largePatterns() []patterns.Pattern {
	r := rand.New(rand.NewSource(8))
	out := []patterns.Pattern{{Sheet: four}, {Sheet: four, Creases: []patterns.Crease{}}}
	for _, s := range []sheets.Sheet{{W: 2, H: 2}, {W: 3, H: 2}, {W: 2, H: 3}, {W: 4, H: 4}, {W: 7, H: 1}, {W: 16, H: 16}, {W: 256, H: 1}, {W: 1, H: 256}} {
		out = append(out, patterns.Pattern{Sheet: s}, full(s))
		for _, part := range []int{1, 2, 3, 4, 5, 6, 7, 8, 9} {
			for range max(1, 60/(s.W*s.H)) {
				out = append(out, chosen(s, func(int, sheets.Unit) api.Kind {
					if r.Intn(10) < part {
						return api.Kind(1 + r.Intn(3))
					}
					return 0
				}))
			}
		}
	}
	return out
}

// somePatterns returns small and large patterns.
func somePatterns() []patterns.Pattern { return append(smallPatterns(), largePatterns()...) }

// badPatterns returns patterns that are not valid.
func badPatterns() []patterns.Pattern {
	bad := unit(1, 0)
	bad.Kind = 4
	out := []patterns.Pattern{
		{Sheet: two, Creases: []patterns.Crease{bad}}, {Sheet: two, Creases: []patterns.Crease{unit(0, 0), bad}}, {Sheet: two, Creases: []patterns.Crease{{Cell: 1, Edge: 0}}},
		{Sheet: two, Creases: []patterns.Crease{unit(0, 0)}}, {Sheet: two, Creases: []patterns.Crease{unit(0, 1), unit(7, 0)}}, {Sheet: two, Creases: []patterns.Crease{unit(0, 3)}},
		{Sheet: two, Creases: []patterns.Crease{unit(-1, 0)}}, {Sheet: two, Creases: []patterns.Crease{unit(8, 1)}}, {Sheet: two, Creases: []patterns.Crease{unit(math.MaxInt, 1)}}, {Sheet: two, Creases: []patterns.Crease{unit(math.MinInt, 255)}},
		{Sheet: two, Creases: []patterns.Crease{unit(0, 1), unit(0, 1)}}, {Sheet: two, Creases: []patterns.Crease{unit(0, 2), unit(0, 1)}}, {Sheet: two, Creases: []patterns.Crease{unit(1, 0), unit(0, 1)}},
	}
	for _, s := range badSheets {
		out = append(out, patterns.Pattern{Sheet: s}, patterns.Pattern{Sheet: s, Creases: []patterns.Crease{unit(1, 0), unit(0, 0)}})
	}
	return out
}

// checkSlice checks that a function returns memory of its own in every call, without room behind its end, that it does not change the pattern, and returns what stood in the result.
func checkSlice[E comparable](t *testing.T, p patterns.Pattern, call func(patterns.Pattern) ([]E, api.Errno)) []E {
	t.Helper()
	is := slices.Clone(p.Creases)
	got, e := call(p)
	if e != api.OK || cap(got) != len(got) {
		t.Fatalf("%v: error %d, length %d, capacity %d", p, e, len(got), cap(got))
	}
	was := slices.Clone(got)
	clear(got)
	if again, e := call(p); e != api.OK || !slices.Equal(again, was) || !slices.Equal(p.Creases, is) {
		t.Fatalf("%v: %v, %d, and before %v", p, again, e, was)
	}
	return was
}

// cellsOf returns the function that calls Cells for a face.
func cellsOf(face int) func(patterns.Pattern) ([]int, api.Errno) {
	return func(p patterns.Pattern) ([]int, api.Errno) { return Cells(p, face) }
}

// examples are patterns with their faces, and with the joints between these.
var examples = []struct {
	sheet   sheets.Sheet
	creases []patterns.Crease
	faces   []int
	joints  []Joint
}{
	{two, nil, []int{0, 0, 0, 0, 0, 0, 0, 0}, nil},
	{two, []patterns.Crease{}, []int{0, 0, 0, 0, 0, 0, 0, 0}, nil},
	{two, []patterns.Crease{unit(1, 0)}, []int{0, 0, 0, 0, 1, 1, 1, 1}, []Joint{{0, 1, 1}}},
	{two, []patterns.Crease{unit(0, 1)}, []int{0, 0, 0, 0, 0, 0, 0, 0}, []Joint{{0, 0, 1}}},
	{two, []patterns.Crease{unit(0, 1), unit(2, 1)}, []int{0, 1, 1, 0, 1, 1, 1, 1}, []Joint{{0, 1, 2}}},
	{two, []patterns.Crease{unit(0, 1), unit(0, 2)}, []int{0, 1, 1, 1, 1, 1, 1, 1}, []Joint{{0, 1, 2}}},
	// The last crease ends within the face 1.
	{two, []patterns.Crease{unit(0, 1), unit(0, 2), unit(4, 1)}, []int{0, 1, 1, 1, 1, 1, 1, 1}, []Joint{{0, 1, 2}, {1, 1, 1}}},
	// The face 1 has a lesser id than some of the face 0.
	{two, []patterns.Crease{unit(0, 1), unit(1, 2)}, []int{0, 1, 0, 0, 1, 1, 1, 1}, []Joint{{0, 1, 2}}},
	{four, []patterns.Crease{unit(8, 1), unit(8, 2), unit(12, 1), unit(12, 2)}, []int{0, 0, 0, 0, 0, 0, 0, 0, 0, 1, 1, 1, 0, 1, 1, 1}, []Joint{{0, 1, 4}}},
	{four, []patterns.Crease{unit(1, 0), unit(2, 0), unit(6, 0), unit(9, 0)}, []int{0, 0, 0, 0, 1, 1, 1, 1, 2, 2, 2, 2, 3, 3, 3, 3}, []Joint{{0, 1, 1}, {0, 2, 1}, {1, 3, 1}, {2, 3, 1}}},
	{four, []patterns.Crease{unit(1, 0)}, []int{0, 0, 0, 0, 0, 0, 0, 0, 0, 0, 0, 0, 0, 0, 0, 0}, []Joint{{0, 0, 1}}},
}

func TestExamples(t *testing.T) { // P8.1, P8.3
	for _, x := range examples {
		p := patterns.Pattern{Sheet: x.sheet, Creases: x.creases}
		if got := checkSlice(t, p, Of); !slices.Equal(got, x.faces) {
			t.Errorf("%v: the faces %v, expected %v", p, got, x.faces)
		}
		if n, e := Count(p); e != api.OK || n != slices.Max(x.faces)+1 {
			t.Errorf("%v: %d faces, %d", p, n, e)
		}
		if got := checkSlice(t, p, Graph); !slices.Equal(got, x.joints) {
			t.Errorf("%v: the joints %v, expected %v", p, got, x.joints)
		}
		ends := slices.ContainsFunc(x.joints, func(j Joint) bool { return j.A == j.B })
		if got, e := Loose(p); e != api.OK || got != ends {
			t.Errorf("%v: %t, %d, expected %t", p, got, e, ends)
		}
	}
}

// leastIds returns, for each cell, the least id of those that can be reached from it: each cell tells its neighbours the least one that it knows, until none learns another one.
func leastIds(p patterns.Pattern) []int {
	least := make([]int, sheets.Count(p.Sheet))
	for id := range least {
		least[id] = id
	}
	var open [][2]int
	units, _ := sheets.Units(p.Sheet)
	for _, u := range units {
		behind, _ := sheets.Neighbour(p.Sheet, u.Cell, u.Edge)
		if k, _ := patterns.Kind(p, u.Cell, u.Edge); k == 0 {
			open = append(open, [2]int{u.Cell, behind})
		}
	}
	for changed := true; changed; {
		changed = false
		for _, x := range open {
			a, b := x[0], x[1]
			if least[a] != least[b] {
				least[a] = min(least[a], least[b])
				least[b] = least[a]
				changed = true
			}
		}
	}
	return least
}

// facesOf returns the face of each cell, and the cells of each face, as the document defines them.
func facesOf(p patterns.Pattern) ([]int, [][]int) {
	numbers := map[int]int{}
	var faces []int
	var members [][]int
	for id, least := range leastIds(p) {
		if _, numbered := numbers[least]; !numbered {
			numbers[least] = len(numbers)
			members = append(members, nil)
		}
		face := numbers[least]
		faces = append(faces, face)
		members[face] = append(members[face], id)
	}
	return faces, members
}

func TestOfAndCount(t *testing.T) { // P8.1
	for _, p := range somePatterns() {
		faces, members := facesOf(p)
		if got := checkSlice(t, p, Of); !slices.Equal(got, faces) {
			t.Errorf("%v: the faces %v, expected %v", p, got, faces)
		}
		if n, e := Count(p); e != api.OK || n != len(members) {
			t.Errorf("%v: %d faces, %d, expected %d", p, n, e, len(members))
		}
	}
}

func TestSizesAndCells(t *testing.T) { // P8.2
	for _, p := range somePatterns() {
		_, members := facesOf(p)
		sizes := checkSlice(t, p, Sizes)
		if len(sizes) != len(members) {
			t.Fatalf("%v: %d sizes, expected %d", p, len(sizes), len(members))
		}
		for face, want := range members {
			if sizes[face] != len(want) {
				t.Errorf("%v: the face %d has %d cells, expected %d", p, face, sizes[face], len(want))
			}
			if len(members) > 100 && face%50 != 0 && face < len(members)-2 {
				continue
			}
			if got := checkSlice(t, p, cellsOf(face)); !slices.Equal(got, want) {
				t.Errorf("%v: the face %d has the cells %v, expected %v", p, face, got, want)
			}
		}
	}
}

func TestNoSuchFace(t *testing.T) { // P8.2, P8.4
	for _, p := range largePatterns() {
		_, members := facesOf(p)
		for _, face := range append(farFaces, len(members), len(members)+1, -len(members)) {
			if face < len(members) && face >= 0 {
				continue
			}
			if l, e := Cells(p, face); e != api.ErrNone || len(l) != 0 {
				t.Errorf("Cells of %v, %d: %v, %d", p, face, l, e)
			}
			if is, e := Convex(p, face); e != api.ErrNone || is {
				t.Errorf("Convex of %v, %d: %t, %d", p, face, is, e)
			}
		}
	}
}

// jointsOf returns the joints of a pattern, by looking for the creases between each two of its faces.
func jointsOf(p patterns.Pattern) []Joint {
	faces, members := facesOf(p)
	meet := map[Joint]int{}
	for _, c := range p.Creases {
		behind, _ := sheets.Neighbour(p.Sheet, c.Cell, c.Edge)
		meet[Joint{A: faces[c.Cell], B: faces[behind]}]++
	}
	var out []Joint
	for a := range members {
		for b := a; b < len(members); b++ {
			n := meet[Joint{A: a, B: b}]
			if a != b {
				n += meet[Joint{A: b, B: a}]
			}
			if n > 0 {
				out = append(out, Joint{a, b, n})
			}
		}
	}
	return out
}

func TestGraphAndLoose(t *testing.T) { // P8.3
	for _, p := range somePatterns() {
		want := jointsOf(p)
		if got := checkSlice(t, p, Graph); !slices.Equal(got, want) {
			t.Errorf("%v: the joints %v, expected %v", p, got, want)
		}
		ends := false
		for _, j := range want {
			ends = ends || j.A == j.B
		}
		if got, e := Loose(p); e != api.OK || got != ends {
			t.Errorf("%v: %t, %d, expected %t", p, got, e, ends)
		}
	}
}

func TestBadPatterns(t *testing.T) { // the error of patterns.Check comes first, also before ErrNone
	for _, p := range badPatterns() {
		want := patterns.Check(p)
		if want == api.OK {
			t.Errorf("%v is valid", p)
		}
		if l, e := Of(p); e != want || len(l) != 0 {
			t.Errorf("Of %v: %v, %d", p, l, e)
		}
		if n, e := Count(p); e != want || n != 0 {
			t.Errorf("Count of %v: %d, %d", p, n, e)
		}
		if l, e := Sizes(p); e != want || len(l) != 0 {
			t.Errorf("Sizes of %v: %v, %d", p, l, e)
		}
		if l, e := Graph(p); e != want || len(l) != 0 {
			t.Errorf("Graph of %v: %v, %d", p, l, e)
		}
		if is, e := Loose(p); e != want || is {
			t.Errorf("Loose of %v: %t, %d", p, is, e)
		}
		for _, face := range append([]int{0, 1, 2}, farFaces...) {
			if l, e := Cells(p, face); e != want || len(l) != 0 {
				t.Errorf("Cells of %v, %d: %v, %d", p, face, l, e)
			}
			if is, e := Convex(p, face); e != want || is {
				t.Errorf("Convex of %v, %d: %t, %d", p, face, is, e)
			}
		}
	}
}
