package places

import (
	"cmp"
	"math"
	"slices"
	"testing"

	"crimp/api"
	"crimp/corners"
	"crimp/patterns"
	"crimp/sheets"
)

// cornersOf returns the points strictly within a sheet whose coordinates are both even or both odd, by Y and then by X.
func cornersOf(s sheets.Sheet) []api.Point {
	var out []api.Point
	for y := 1; y < 2*s.H; y++ {
		for x := 1; x < 2*s.W; x++ {
			if (x+y)%2 == 0 {
				out = append(out, api.Point{X: x, Y: y})
			}
		}
	}
	return out
}

// closesAt reports whether a corner closes by its angles: there are no creases, or an even number of them, and every second angle has the sum 4.
func closesAt(p patterns.Pattern, at api.Point) bool {
	var dirs []int
	for _, c := range p.Creases {
		ends, _ := sheets.Ends(p.Sheet, sheets.Unit{Cell: c.Cell, Edge: c.Edge})
		for i, end := range ends {
			if end == at {
				to := ends[1-i]
				turn := math.Atan2(float64(to.Y-at.Y), float64(to.X-at.X)) / math.Pi * 4
				dirs = append(dirs, (int(math.Round(turn))+8)%8)
			}
		}
	}
	if len(dirs)%2 == 1 {
		return false
	}
	slices.Sort(dirs)
	sum := 0
	for i := 0; i < len(dirs); i += 2 {
		sum += dirs[i+1] - dirs[i]
	}
	return len(dirs) == 0 || sum == 4
}

func TestClosesExamples(t *testing.T) { // P10.4
	for _, x := range []struct {
		s       sheets.Sheet
		creases string
		at      api.Point
		want    bool
	}{
		{four, "", api.Point{X: 2, Y: 2}, true},
		{four, "v u 2 0 4; v d 0 0 4", api.Point{X: 2, Y: 2}, true},
		{four, "m x 1 0 4; v u 2 2 4; v d 0 0 2", api.Point{X: 2, Y: 2}, true},
		{four, "m x 1 0 4; v u 2 2 4; v d 0 0 2", api.Point{X: 1, Y: 1}, true},
		{four, "m x 1 0 4; v y 1 0 2", api.Point{X: 2, Y: 2}, false},
		{four, "m x 1 0 4; v y 1 0 2", api.Point{X: 3, Y: 3}, true},
		{four, "m x 1 0 2", api.Point{X: 2, Y: 2}, false},
		{four, "m x 1 0 2; m y 1 2 4", api.Point{X: 2, Y: 2}, false},           // two that are not straight
		{four, "m x 1 0 4; m u 2 0 4", api.Point{X: 2, Y: 2}, false},           // every second angle has the sum 6 or 2
		{four, "m x 1 0 4; m y 1 0 4; m u 2 0 4", api.Point{X: 2, Y: 2}, true}, // the angles are 2, 1, 1, 2, 1, 1
		{four, "m x 1 0 4; m y 1 0 4; m u 2 0 4; m d 0 0 4", api.Point{X: 2, Y: 2}, true},
		{four, "v u 2 2 3", api.Point{X: 3, Y: 1}, false},
	} {
		if got, e := Closes(pattern(t, x.s, x.creases), x.at); e != api.OK || got != x.want {
			t.Errorf("%s at %v: %t, %d", x.creases, x.at, got, e)
		}
	}
}

func TestCloses(t *testing.T) { // P10.4
	for _, p := range slices.Concat(somePatterns(), aroundMiddle()) {
		l := cornersOf(p.Sheet)
		if len(l) > 100 { // corners at both ends and between them are enough
			l = slices.Concat(l[:12], l[len(l)/2:len(l)/2+12], l[len(l)-12:])
		}
		creases := slices.Clone(p.Creases)
		for _, at := range l {
			if got, e := Closes(p, at); e != api.OK || got != closesAt(p, at) {
				t.Errorf("%v at %v: %t, %d", p, at, got, e)
			}
		}
		if !slices.Equal(p.Creases, creases) {
			t.Errorf("%v: the creases were %v", p, creases)
		}
	}
}

func TestClosesWithAllRays(t *testing.T) { // P10.4: all 256 sets of directions
	s, at := sheets.Sheet{W: 4, H: 3}, api.Point{X: 6, Y: 4}
	for set := range 1 << 8 {
		p := chosen(s, func(i int, u sheets.Unit) api.Kind {
			ends, _ := sheets.Ends(s, u)
			for dir := range 8 {
				step := [8]api.Point{{X: 2}, {X: 1, Y: 1}, {Y: 2}, {X: -1, Y: 1}, {X: -2}, {X: -1, Y: -1}, {Y: -2}, {X: 1, Y: -1}}[dir]
				to := api.Point{X: at.X + step.X, Y: at.Y + step.Y}
				if set>>dir&1 == 1 && (ends == [2]api.Point{at, to} || ends == [2]api.Point{to, at}) {
					return api.Kind(1 + i%3)
				}
			}
			return 0
		})
		if n, e := corners.Degree(p, at); e != api.OK || n != len(p.Creases) {
			t.Fatalf("%v: %d creases, %d", p, n, e)
		}
		if got, e := Closes(p, at); e != api.OK || got != closesAt(p, at) {
			t.Errorf("%v: %t, %d", p, got, e)
		}
	}
}

func TestLinesOfRays(t *testing.T) { // P10.4: the creases in the directions from 0 to 7
	var rays []corners.Ray
	for dir := range 8 {
		rays = append(rays, corners.Ray{Dir: dir, Kind: api.Valley})
	}
	var got []api.Line
	visitLines(api.Point{X: 6, Y: 4}, rays, func(l api.Line) { got = append(got, l) })
	half := []api.Line{{Kind: api.H, C: 2}, {Kind: api.D, C: -1}, {Kind: api.V, C: 3}, {Kind: api.U, C: 5}}
	if !slices.Equal(got, slices.Concat(half, half)) {
		t.Errorf("%v", got)
	}
}

func TestClosesErrors(t *testing.T) { // P10.4: the error of corners.Creases
	inner := api.Point{X: 1, Y: 1}
	for _, at := range []api.Point{inner, {}, {X: -1, Y: 7}, {X: math.MaxInt, Y: math.MinInt}} {
		for _, s := range badSheets {
			if is, e := Closes(patterns.Pattern{Sheet: s}, at); e != api.ErrArg || is {
				t.Errorf("%v at %v: %t, %d", s, at, is, e)
			}
		}
		for _, bad := range badPatterns() {
			if is, e := Closes(bad.p, at); e != bad.e || is {
				t.Errorf("%v at %v: %t, %d", bad.p, at, is, e)
			}
		}
		for _, p := range []patterns.Pattern{{Sheet: two}, pattern(t, four, "m x 1 0 2"), pattern(t, four, "v x 1 0 4; v y 1 0 4")} {
			if is, e := Closes(p, at); at != inner && (e != api.ErrNone || is) {
				t.Errorf("%v at %v: %t, %d", p, at, is, e)
			}
		}
	}
	p := pattern(t, two, "m x 1 0 2")
	for y := -1; y <= 3; y++ {
		for x := -1; x <= 5; x++ {
			at := api.Point{X: x, Y: y}
			want := api.ErrNone
			if slices.Contains(cornersOf(two), at) {
				want = api.OK
			}
			if is, e := Closes(p, at); e != want || is != (want == api.OK) {
				t.Errorf("%v: %t, %d", at, is, e)
			}
		}
	}
}

func TestOpenExamples(t *testing.T) { // P10.4
	for _, x := range []struct {
		creases string
		at      api.Point
		want    bool
	}{
		{"m x 1 0 4; v y 1 0 2", api.Point{X: 2, Y: 2}, true},
		{"m x 1 0 4; v y 1 0 4", api.Point{}, false},
		{"", api.Point{}, false},
		{"m u 1 1 2", api.Point{X: 1, Y: 1}, true},
		{"v u 3 2 3; v d 1 0 1; v x 1 0 2", api.Point{X: 2, Y: 2}, true}, // (1, 3) and (3, 3) do not close, either
		{"v u 3 2 3; v d 1 0 1", api.Point{X: 1, Y: 3}, true},
		{"v d -1 3 4; v x 1 0 2", api.Point{X: 3, Y: 1}, true}, // before (2, 2), as its Y is less
		{"v u 3 3 4", api.Point{X: 3, Y: 3}, true},
	} {
		if at, open, e := Open(pattern(t, four, x.creases)); e != api.OK || at != x.at || open != x.want {
			t.Errorf("%s: %v, %t, %d", x.creases, at, open, e)
		}
	}
}

// firstOpen returns the first corner of a pattern that does not close, or (0, 0) and false.
func firstOpen(p patterns.Pattern) (api.Point, bool) {
	var open []api.Point
	for _, at := range cornersOf(p.Sheet) {
		if !closesAt(p, at) {
			open = append(open, at)
		}
	}
	if len(open) == 0 {
		return api.Point{}, false
	}
	return slices.MinFunc(open, func(a, b api.Point) int { return cmp.Or(a.Y-b.Y, a.X-b.X) }), true
}

func TestOpen(t *testing.T) { // P10.4
	for _, p := range slices.Concat(somePatterns(), allPatterns(), aroundMiddle()) {
		creases := slices.Clone(p.Creases)
		at, open, e := Open(p)
		wantAt, want := firstOpen(p)
		if e != api.OK || at != wantAt || open != want {
			t.Errorf("%v: %v, %t, %d, expected %v, %t", p, at, open, e, wantAt, want)
		}
		if !slices.Equal(p.Creases, creases) {
			t.Errorf("%v: the creases were %v", p, creases)
		}
	}
}

func TestOpenErrors(t *testing.T) { // P10.4
	for _, s := range badSheets {
		if at, open, e := Open(patterns.Pattern{Sheet: s}); e != api.ErrArg || open || at != (api.Point{}) {
			t.Errorf("%v: %v, %t, %d", s, at, open, e)
		}
	}
	for _, bad := range badPatterns() {
		if at, open, e := Open(bad.p); e != bad.e || open || at != (api.Point{}) {
			t.Errorf("%v: %v, %t, %d", bad.p, at, open, e)
		}
	}
}
