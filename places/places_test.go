package places

import (
	"math"
	"slices"
	"strings"
	"testing"

	"crimp/api"
	"crimp/cells"
	"crimp/moves"
	"crimp/patterns"
	"crimp/segments"
	"crimp/sets"
	"crimp/sheets"
)

// The sheets of the examples.
var (
	one  = sheets.Sheet{W: 1, H: 1}
	two  = sheets.Sheet{W: 2, H: 1}
	four = sheets.Sheet{W: 2, H: 2}
)

// badSheets are sheets that are not valid.
var badSheets = []sheets.Sheet{
	{}, {W: 0, H: 1}, {W: 1, H: 0}, {W: -1, H: -1}, {W: 257, H: 1}, {W: 17, H: 16},
	{W: math.MaxInt, H: 1}, {W: 1, H: math.MinInt}, {W: 1 << 32, H: 1 << 32},
}

// badRoots are moves that are not valid.
var badRoots = []moves.Move{
	{Turn: 8}, {Turn: 255}, {X: 1}, {Turn: 5, Y: -1}, {X: 16385, Y: 1}, {X: 16386}, {Y: -16386}, {Turn: 7, X: 16386, Y: 16386},
	{X: math.MaxInt}, {Y: math.MinInt}, {X: math.MinInt, Y: math.MinInt}, {X: 1 << 32},
}

// someRoots are moves of all turns that take no sheet to the limits.
var someRoots = []moves.Move{
	{}, {X: 4}, {Turn: 1, X: 3, Y: 1}, {Turn: 2, X: -300, Y: 2}, {Turn: 3, X: -7, Y: -9}, {Turn: 4, X: 2}, {Turn: 5, X: 1, Y: 1}, {Turn: 6, Y: -2}, {Turn: 7, X: 1001, Y: -1001},
}

// pattern returns the pattern of a sheet with the segments whose texts stand in l, divided by semicolons.
func pattern(t *testing.T, s sheets.Sheet, l string) patterns.Pattern {
	t.Helper()
	var out []segments.Segment
	for w := range strings.SplitSeq(l, "; ") {
		if w == "" {
			continue
		}
		x, e := segments.Parse(w)
		if e != api.OK {
			t.Fatalf("%q: %d", w, e)
		}
		out = append(out, x)
	}
	p, i, e := segments.Pattern(s, out)
	if e != api.OK {
		t.Fatalf("%s: %d, %d", l, i, e)
	}
	return p
}

// move returns the move with a text.
func move(t *testing.T, s string) moves.Move {
	t.Helper()
	m, e := moves.Parse(s)
	if e != api.OK {
		t.Fatalf("%q: %d", s, e)
	}
	return m
}

// checkSlice checks that a call for a pattern returns memory of its own every time, without room behind its end, and leaves the pattern as it is. It returns what stood in the result.
func checkSlice[E comparable](t *testing.T, p patterns.Pattern, call func() ([]E, api.Errno)) []E {
	t.Helper()
	creases := slices.Clone(p.Creases)
	got, e := call()
	if e != api.OK || cap(got) != len(got) {
		t.Fatalf("%v: error %d, length %d, capacity %d", p, e, len(got), cap(got))
	}
	was := slices.Clone(got)
	clear(got)
	if again, e := call(); e != api.OK || !slices.Equal(again, was) {
		t.Fatalf("%v: %v, %d, and before %v", p, again, e, was)
	}
	if !slices.Equal(p.Creases, creases) {
		t.Fatalf("%v: the creases were %v", p, creases)
	}
	return was
}

func TestPlacesExamples(t *testing.T) { // P10.1
	for _, x := range []struct {
		s       sheets.Sheet
		creases string
		want    string // for each square, or for each cell
	}{
		{two, "", "0 0 0; 0 0 0"},
		{two, "m x 1 0 2", "0 0 0; 4 2 0"},
		{four, "m x 1 0 4; v y 1 0 4", "0 0 0; 4 2 0; 6 0 2; 2 2 2"},
		{one, "m u 1 0 2", "0 0 0; 5 1 1; 5 1 1; 0 0 0"},
	} {
		p := pattern(t, x.s, x.creases)
		got, e := Places(p, moves.Identity())
		if e != api.OK || len(got) != sheets.Count(x.s) {
			t.Fatalf("%s: %v, %d", x.creases, got, e)
		}
		want := strings.Split(x.want, "; ")
		for id, m := range got {
			if text := want[id*len(want)/len(got)]; moves.Text(m) != text {
				t.Errorf("%s: the place of %d is %v, expected %s", x.creases, id, m, text)
			}
		}
	}
}

func TestPlaces(t *testing.T) { // P10.1
	for i, p := range somePatterns() {
		for _, root := range []moves.Move{{}, someRoots[i%len(someRoots)]} {
			want, tears := placesOf(p, root)
			if tears {
				expectError(t, p, root, api.ErrTear)
				continue
			}
			got := checkSlice(t, p, func() ([]moves.Move, api.Errno) { return Places(p, root) })
			if !slices.Equal(got, want) {
				t.Fatalf("%v, %v: %v, expected %v", p, root, got, want)
			}
		}
	}
}

func TestPlacesOfAllSmallPatterns(t *testing.T) { // P10.1
	for _, p := range allPatterns() {
		root := someRoots[len(p.Creases)%len(someRoots)]
		want, tears := placesOf(p, root)
		got, e := Places(p, root)
		if tears != (e == api.ErrTear) || !tears && (e != api.OK || !slices.Equal(got, want)) {
			t.Errorf("%v, %v: %v, %d, expected %v, %t", p, root, got, e, want, tears)
		}
	}
}

func TestImagesExamples(t *testing.T) { // P10.2
	p := pattern(t, one, "m u 1 0 2")
	got, e := Images(p, moves.Identity())
	if want := []api.Cell{{Q: api.South}, {Q: api.South}, {Q: api.West}, {Q: api.West}}; e != api.OK || !slices.Equal(got, want) {
		t.Errorf("Images: %v, %d", got, e)
	}
	up, e := Up(p, moves.Identity())
	if want := []bool{true, false, false, true}; e != api.OK || !slices.Equal(up, want) {
		t.Errorf("Up: %v, %d", up, e)
	}
	got, e = Images(pattern(t, two, "m x 1 0 2"), moves.Identity())
	want := []api.Cell{{Q: 0}, {Q: 1}, {Q: 2}, {Q: 3}, {Q: 0}, {Q: 3}, {Q: 2}, {Q: 1}}
	if e != api.OK || !slices.Equal(got, want) {
		t.Errorf("Images: %v, %d", got, e)
	}
}

// ascending returns points by their X and Y.
func ascending(l [3]api.Point) []api.Point {
	slices.SortFunc(l[:], func(a, b api.Point) int { return (a.X-b.X)<<20 + a.Y - b.Y })
	return l[:]
}

// turnsLeft reports whether one turns left at the second one of three points.
func turnsLeft(l [3]api.Point) bool {
	return (l[1].X-l[0].X)*(l[2].Y-l[1].Y) > (l[1].Y-l[0].Y)*(l[2].X-l[1].X)
}

func TestImagesAndUp(t *testing.T) { // P10.2: by where the places move the corners of cells
	for i, p := range flatPatterns() {
		root := someRoots[i%len(someRoots)]
		places, _ := Places(p, root)
		images := checkSlice(t, p, func() ([]api.Cell, api.Errno) { return Images(p, root) })
		up := checkSlice(t, p, func() ([]bool, api.Errno) { return Up(p, root) })
		all, _ := sheets.Cells(p.Sheet)
		if len(images) != len(all) || len(up) != len(all) {
			t.Fatalf("%v: %d images, %d sides", p.Sheet, len(images), len(up))
		}
		for id, c := range all {
			was, _ := cells.Corners(c)
			is := was
			for i := range is {
				is[i], _ = moves.Point(places[id], was[i])
			}
			want, e := cells.Corners(images[id])
			if e != api.OK || !slices.Equal(ascending(is), ascending(want)) {
				t.Fatalf("%v, %v: the image of %d is %v", p, root, id, images[id])
			}
			if up[id] != (turnsLeft(was) == turnsLeft(movedBy(places[id], was))) {
				t.Fatalf("%v, %v: %d lies face up: %t", p, root, id, up[id])
			}
		}
	}
}

// movedBy returns where a move takes points, in their order.
func movedBy(m moves.Move, l [3]api.Point) [3]api.Point {
	for i := range l {
		l[i], _ = moves.Point(m, l[i])
	}
	return l
}

func TestSilhouetteAndDepthExamples(t *testing.T) { // P10.3
	for _, x := range []struct {
		s       sheets.Sheet
		creases string
		root    string
		want    string
		depth   int
	}{
		{two, "", "0 0 0", "SENWSENW\n", 1},
		{two, "m x 1 0 2", "0 0 0", "SENW\n", 2},
		{two, "m x 1 0 2", "1 4 0", "SENW\n", 2},
		{four, "m x 1 0 4; v y 1 0 4", "0 0 0", "SENW\n", 4},
		{one, "m u 1 0 2", "0 0 0", "S..W\n", 2},
		{sheets.Sheet{W: 3, H: 1}, "v x 1 0 2", "0 0 0", "SENWSENW\n", 2},
		{sheets.Sheet{W: 3, H: 1}, "v x 2 0 2", "0 0 0", "SENWSENW\n", 2},
		{four, "v u 2 0 4", "0 0 0", "S..W....\nSENWS..W\n", 2},
		{four, "v u 2 0 4; v d 0 0 4", "0 0 0", "SE..S..W\n", 4},
	} {
		p, root := pattern(t, x.s, x.creases), move(t, x.root)
		got, e := Silhouette(p, root)
		depth, f := Depth(p, root)
		if e != api.OK || f != api.OK || depth != x.depth {
			t.Errorf("%s: %v, %d, depth %d, %d", x.creases, got, e, depth, f)
		}
		if text, _ := sets.Text(got); text != x.want {
			t.Errorf("%s: %q, expected %q", x.creases, text, x.want)
		}
	}
}

func TestSilhouetteAndDepth(t *testing.T) { // P10.3
	for i, p := range flatPatterns() {
		root := someRoots[i%len(someRoots)]
		images, _ := Images(p, root)
		got := checkSlice(t, p, func() ([]api.Cell, api.Errno) { return Silhouette(p, root) })
		if e := sets.Check(got); e != api.OK {
			t.Fatalf("%v, %v: %v is no set, %d", p, root, got, e)
		}
		sum, most := 0, 0
		for _, c := range got {
			n := 0
			for _, d := range images {
				if d == c {
					n++
				}
			}
			if n == 0 {
				t.Errorf("%v, %v: nothing lies over %v", p, root, c)
			}
			sum, most = sum+n, max(most, n)
		}
		depth, e := Depth(p, root)
		if e != api.OK || depth != most || sum != len(images) {
			t.Errorf("%v, %v: depth %d, %d, expected %d; %d of %d images", p, root, depth, e, most, sum, len(images))
		}
	}
}

// expectError checks that all functions with a root return an error, and nothing else.
func expectError(t *testing.T, p patterns.Pattern, root moves.Move, want api.Errno) {
	t.Helper()
	if l, e := Places(p, root); e != want || len(l) != 0 {
		t.Errorf("Places of %v, %v: %v, %d, expected the error %d", p, root, l, e, want)
	}
	if l, e := Images(p, root); e != want || len(l) != 0 {
		t.Errorf("Images of %v, %v: %v, %d, expected the error %d", p, root, l, e, want)
	}
	if l, e := Up(p, root); e != want || len(l) != 0 {
		t.Errorf("Up of %v, %v: %v, %d, expected the error %d", p, root, l, e, want)
	}
	if l, e := Silhouette(p, root); e != want || len(l) != 0 {
		t.Errorf("Silhouette of %v, %v: %v, %d, expected the error %d", p, root, l, e, want)
	}
	if n, e := Depth(p, root); e != want || n != 0 {
		t.Errorf("Depth of %v, %v: %d, %d, expected the error %d", p, root, n, e, want)
	}
}

func TestBadArguments(t *testing.T) { // the error of patterns.Check comes first, then ErrArg for the root, then ErrTear
	roots := slices.Concat(someRoots, badRoots, farRoots())
	for _, root := range roots {
		for _, s := range badSheets {
			expectError(t, patterns.Pattern{Sheet: s}, root, api.ErrArg)
			expectError(t, patterns.Pattern{Sheet: s, Creases: []patterns.Crease{{Cell: 1, Edge: 0, Kind: api.Any}, {Cell: 0, Edge: 0, Kind: api.Any}}}, root, api.ErrArg)
		}
		for _, bad := range badPatterns() {
			expectError(t, bad.p, root, bad.e)
		}
	}
	for _, root := range badRoots {
		for _, p := range []patterns.Pattern{{Sheet: one}, pattern(t, two, "m x 1 0 2"), pattern(t, four, "m x 1 0 2"), {Sheet: sheets.Sheet{W: 16, H: 16}}} {
			expectError(t, p, root, api.ErrArg)
		}
	}
}

func TestTearComesBeforeLimit(t *testing.T) { // P10.1
	for _, root := range farRoots() {
		expectError(t, pattern(t, one, "m u 1 0 1"), root, api.ErrTear)
		expectError(t, pattern(t, four, "m x 1 0 4; v y 1 0 2"), root, api.ErrTear)
		// It tears behind creases, where images may already lie beyond the limits.
		expectError(t, pattern(t, sheets.Sheet{W: 9, H: 1}, "m x 1 0 2; m x 4 0 2; m d -8 16 17"), root, api.ErrTear)
	}
}

// farRoots returns moves of all turns near the limits of cells and of moves.
func farRoots() []moves.Move {
	var out []moves.Move
	var shifts []int
	for _, near := range []int{api.MaxC, moves.MaxMove} {
		for by := -3; by <= 3; by++ {
			shifts = append(shifts, near+by, -near+by)
		}
	}
	for turn := range uint8(8) {
		for _, shift := range shifts {
			for _, m := range []moves.Move{{Turn: turn, X: shift, Y: shift % 2}, {Turn: turn, X: shift % 2, Y: shift}, {Turn: turn, X: shift, Y: shift}, {Turn: turn, X: -shift, Y: shift}} {
				if moves.Check(m) == api.OK {
					out = append(out, m)
				}
			}
		}
	}
	return out
}

// factors are those of x and y in the x, and in the y, of a point that a move turns, by Turn.
var factors = [8][4]int{{1, 0, 0, 1}, {0, -1, 1, 0}, {-1, 0, 0, -1}, {0, 1, -1, 0}, {-1, 0, 0, 1}, {0, -1, -1, 0}, {1, 0, 0, -1}, {0, 1, 1, 0}}

// isWithin reports whether a root moves the square at (x, y) to one that is within the limits.
func isWithin(root moves.Move, x, y int) bool {
	f := factors[root.Turn]
	lowX := min(f[0]*x+f[1]*y, f[0]*(x+1)+f[1]*(y+1)) + root.X
	lowY := min(f[2]*x+f[3]*y, f[2]*(x+1)+f[3]*(y+1)) + root.Y
	return -api.MaxC <= lowX && lowX <= api.MaxC && -api.MaxC <= lowY && lowY <= api.MaxC
}

func TestLimits(t *testing.T) { // P10.1: ErrLimit if an image is not valid; a place is not valid only where the image is not, either
	far := farRoots()
	for _, p := range []patterns.Pattern{
		{Sheet: one}, {Sheet: two}, {Sheet: sheets.Sheet{W: 1, H: 3}}, {Sheet: sheets.Sheet{W: 16, H: 16}},
		pattern(t, one, "m u 1 0 2"), pattern(t, two, "m x 1 0 2"), pattern(t, four, "m x 1 0 4; v y 1 0 4"), pattern(t, four, "v u 2 0 4; v d 0 0 4"),
		pattern(t, sheets.Sheet{W: 4, H: 1}, "m x 1 0 2"), pattern(t, sheets.Sheet{W: 4, H: 1}, "m x 1 0 2; m x 3 0 2"), pattern(t, sheets.Sheet{W: 1, H: 4}, "m y 1 0 2; m d 3 0 2"),
	} {
		images, e := Images(p, moves.Identity())
		if e != api.OK {
			t.Fatalf("%v: %d", p, e)
		}
		for _, root := range far {
			within := true
			for _, c := range images {
				within = within && isWithin(root, c.X, c.Y)
			}
			if !within {
				expectError(t, p, root, api.ErrLimit)
			} else if l, e := Places(p, root); e != api.OK || len(l) != len(images) {
				t.Errorf("%v, %v: %v, %d", p, root, l, e)
			}
		}
	}
	p := pattern(t, two, "m x 1 0 2")
	if l, e := Places(p, moves.Move{X: 4096}); e != api.OK || !slices.Equal(l, slices.Concat(slices.Repeat([]moves.Move{{X: 4096}}, 4), slices.Repeat([]moves.Move{{Turn: 4, X: 4098}}, 4))) {
		t.Errorf("%v, %d", l, e)
	}
}
