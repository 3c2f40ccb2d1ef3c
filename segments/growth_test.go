package segments

import (
	"math/rand"
	"slices"
	"testing"

	"crimp/api"
	"crimp/patterns"
	"crimp/sheets"
)

// somePatterns returns patterns of a sheet: without creases, with all of one kind, and with many ones.
func somePatterns(s sheets.Sheet) []patterns.Pattern {
	units, _ := sheets.Units(s)
	out := []patterns.Pattern{{Sheet: s}, {Sheet: s, Creases: []patterns.Crease{}}}
	add := func(kind func() api.Kind) {
		p := patterns.Pattern{Sheet: s}
		for _, u := range units {
			if k := kind(); k != 0 {
				p.Creases = append(p.Creases, patterns.Crease{Cell: u.Cell, Edge: u.Edge, Kind: k})
			}
		}
		out = append(out, p)
	}
	r := rand.New(rand.NewSource(int64(len(units))))
	for k := api.Mountain; k <= api.Any; k++ {
		add(func() api.Kind { return k })
		add(func() api.Kind { return k * api.Kind(r.Intn(2)) })
		add(func() api.Kind { return api.Kind(1 + r.Intn(int(k))) })
		add(func() api.Kind { return api.Kind(r.Intn(4)) })
	}
	return out
}

// checkOf returns the segments of a pattern, which is not changed, and checks that they are memory of their own.
func checkOf(t *testing.T, p patterns.Pattern) []Segment {
	t.Helper()
	was := slices.Clone(p.Creases)
	l, e := Of(p)
	if e != api.OK || cap(l) != len(l) {
		t.Fatalf("%v: error %d, length %d, capacity %d", p, e, len(l), cap(l))
	}
	out := slices.Clone(l)
	clear(l)
	if again, _ := Of(p); !slices.Equal(again, out) || !slices.Equal(p.Creases, was) {
		t.Fatalf("%v: %v, and before %v", p, again, out)
	}
	return out
}

func TestOfExamples(t *testing.T) { // P7.3
	for _, x := range []struct{ in, want string }{
		{"", ""}, {"m x 1 0 4", ""}, {"m x 1 0 2; v x 1 2 4", ""}, {"v x 1 2 4; m x 1 0 2", "m x 1 0 2; v x 1 2 4"},
		// Pieces are put together if they are of one kind, on one line, and have an end in common.
		{"m x 1 2 4; m x 1 0 2", "m x 1 0 4"}, {"a u 2 0 1; a u 2 2 4; a u 2 1 2", "a u 2 0 4"}, {"a u 2 0 1; m u 2 1 2; a u 2 2 4", ""}, {"v d 0 0 1; v d 0 2 3", ""}, {"v u 2 0 2; v d 0 2 4", ""},
		// Others may cross them.
		{"v y 1 0 4; m x 1 0 4; m u 2 0 4; m d 0 0 4", "m x 1 0 4; v y 1 0 4; m u 2 0 4; m d 0 0 4"},
		// The order is that of the kinds of lines, of C, and of From.
		{"a d 1 0 2; a d -1 2 4; a d 0 3 4; a d 0 0 2; a u 3 2 4; a u 1 0 2; a y 1 2 4; a x 1 2 4", "a x 1 2 4; a y 1 2 4; a u 1 0 2; a u 3 2 4; a d -1 2 4; a d 0 0 2; a d 0 3 4; a d 1 0 2"},
		{"m u 2 3 4; v u 2 0 1; a u 2 1 2", "v u 2 0 1; a u 2 1 2; m u 2 3 4"},
	} {
		want := x.want
		if want == "" {
			want = x.in
		}
		if got := texts(checkOf(t, checkPattern(t, four, list(t, x.in)))); got != want {
			t.Errorf("%s: %s", x.in, got)
		}
	}
}

func TestOfOrdersLines(t *testing.T) { // P7.3: C is ordered as a number, also if it is less than 0
	p := checkPattern(t, sheets.Sheet{W: 12, H: 12}, list(t, "m x 10 0 2; m x 2 20 24; m x 2 4 6; m d -10 20 22; m d -2 20 22; m d -2 4 6; m d 9 0 2"))
	if got := texts(checkOf(t, p)); got != "m x 2 4 6; m x 2 20 24; m x 10 0 2; m d -10 20 22; m d -2 4 6; m d -2 20 22; m d 9 0 2" {
		t.Error(got)
	}
}

// before reports whether a segment comes before another one.
func before(a, b Segment) bool {
	switch {
	case a.Line.Kind != b.Line.Kind:
		return a.Line.Kind < b.Line.Kind
	case a.Line.C != b.Line.C:
		return a.Line.C < b.Line.C
	}
	return a.From < b.From
}

// creasesUnder returns the creases on which segments lie, each as often as it does.
func creasesUnder(t *testing.T, s sheets.Sheet, l []Segment) map[patterns.Crease]int {
	t.Helper()
	out := map[patterns.Crease]int{}
	for _, x := range l {
		units, e := Units(s, x)
		if e != api.OK {
			t.Fatalf("%v, %v: %d", s, x, e)
		}
		for _, u := range units {
			out[patterns.Crease{Cell: u.Cell, Edge: u.Edge, Kind: x.Kind}]++
		}
	}
	return out
}

func TestOf(t *testing.T) { // P7.3: each crease lies on one segment, and no segment can be longer
	for _, s := range someSheets() {
		for _, p := range somePatterns(s) {
			l := checkOf(t, p)
			under := creasesUnder(t, s, l)
			for _, c := range p.Creases {
				if under[c] != 1 {
					t.Errorf("%v: %d segments on %v", p, under[c], c)
				}
			}
			if len(under) != len(p.Creases) {
				t.Errorf("%v: %s lie on %d creases", p, texts(l), len(under))
			}
			for i := 1; i < len(l); i++ {
				if !before(l[i-1], l[i]) {
					t.Errorf("%v: %s before %s", p, Text(l[i-1]), Text(l[i]))
				}
			}
		}
	}
}

func TestOfErrors(t *testing.T) { // P7.3: those of patterns.Check
	good, kind, unit := patterns.Crease{Cell: 0, Edge: 1, Kind: 2}, patterns.Crease{Cell: 1, Edge: 0, Kind: 4}, patterns.Crease{Cell: 0, Edge: 0, Kind: 1}
	bad := []patterns.Pattern{
		{Sheet: four, Creases: []patterns.Crease{kind}}, {Sheet: four, Creases: []patterns.Crease{unit, kind}}, {Sheet: four, Creases: []patterns.Crease{unit}},
		{Sheet: four, Creases: []patterns.Crease{good, good, unit}}, {Sheet: four, Creases: []patterns.Crease{good, good}}, {Sheet: four, Creases: []patterns.Crease{{Cell: 7, Edge: 0, Kind: 2}}},
		{Sheet: four, Creases: []patterns.Crease{{Cell: 0, Edge: 2, Kind: 3}, good}}, {Sheet: four, Creases: []patterns.Crease{{Cell: 1 << 62, Edge: 2, Kind: 3}}},
	}
	for _, s := range badSheets {
		bad = append(bad, patterns.Pattern{Sheet: s}, patterns.Pattern{Sheet: s, Creases: []patterns.Crease{good, good, unit}})
	}
	for i, want := range []api.Errno{api.ErrArg, api.ErrArg, api.ErrNone, api.ErrNone, api.ErrState, api.ErrNone, api.ErrState, api.ErrNone} {
		if e := patterns.Check(bad[i]); e != want {
			t.Fatalf("%v: %d", bad[i], e)
		}
	}
	for _, p := range bad {
		if l, e := Of(p); e != patterns.Check(p) || e == api.OK || len(l) != 0 {
			t.Errorf("%v: %v, %d", p, l, e)
		}
	}
}

// These tests are for P7.6: what follows from the other promises.

func TestPatternOfSegments(t *testing.T) {
	r := rand.New(rand.NewSource(7))
	for _, s := range someSheets() {
		for _, p := range somePatterns(s) {
			l := checkOf(t, p)
			r.Shuffle(len(l), func(i, j int) { l[i], l[j] = l[j], l[i] })
			if q := checkPattern(t, s, l); !patterns.Same(p, q) {
				t.Errorf("%v: the pattern of its segments is %v", p, q)
			}
		}
	}
}

func TestSegmentsCannotBePutTogether(t *testing.T) {
	type end struct {
		line api.Line
		at   int
	}
	for _, s := range someSheets() {
		for _, p := range somePatterns(s) {
			begins := map[end]api.Kind{}
			l := checkOf(t, p)
			for _, x := range l {
				begins[end{x.Line, x.From}] = x.Kind
			}
			for _, x := range l {
				if begins[end{x.Line, x.To}] == x.Kind {
					t.Errorf("%v: another segment continues %s", p, Text(x))
				}
			}
		}
	}
}

func TestUnitsOfSegments(t *testing.T) {
	for _, s := range someSheets() {
		for _, p := range somePatterns(s) {
			for _, x := range checkOf(t, p) {
				units, e := Units(s, x)
				length := 0
				for _, u := range units {
					line, _ := sheets.Line(s, u)
					ends, _ := sheets.Ends(s, u)
					if line != x.Line {
						t.Errorf("%v, %s: %v lies on another line", s, Text(x), u)
					}
					length += max(ends[1].X-ends[0].X, ends[1].Y-ends[0].Y)
				}
				if e != api.OK || length != x.To-x.From {
					t.Errorf("%v, %s: %v, %d: length %d", s, Text(x), units, e, length)
				}
			}
		}
	}
}
