package segments

import (
	"math"
	"slices"
	"strings"
	"testing"

	"crimp/api"
	"crimp/patterns"
	"crimp/sheets"
)

// four is the sheet of the examples.
var four = sheets.Sheet{W: 2, H: 2}

// badSheets are sheets that are not valid.
var badSheets = []sheets.Sheet{
	{}, {W: 0, H: 1}, {W: 1, H: 0}, {W: -1, H: -1}, {W: 257, H: 1}, {W: 17, H: 16},
	{W: math.MaxInt, H: 1}, {W: 1, H: math.MinInt}, {W: 1 << 32, H: 1 << 32},
}

// badSegments are segments that are not valid for any sheet, by their kinds, their lines, and because From is not less than To.
var badSegments = []Segment{
	{},
	{0, api.Line{Kind: api.V, C: 1}, 0, 2}, {4, api.Line{Kind: api.V, C: 1}, 0, 2}, {255, api.Line{Kind: api.U, C: 2}, 0, 4},
	{api.Any, api.Line{Kind: 0, C: 1}, 0, 2}, {api.Any, api.Line{Kind: 5, C: 1}, 0, 2}, {api.Any, api.Line{Kind: 255, C: 1}, 0, 2},
	{api.Valley, api.Line{Kind: api.V, C: 4097}, 0, 2}, {api.Valley, api.Line{Kind: api.H, C: -4097}, 0, 2},
	{api.Valley, api.Line{Kind: api.U, C: math.MaxInt}, 0, 2}, {api.Valley, api.Line{Kind: api.D, C: math.MinInt}, 0, 2},
	{api.Mountain, api.Line{Kind: api.V, C: 1}, 2, 2}, {api.Mountain, api.Line{Kind: api.V, C: 1}, 2, 0}, {api.Mountain, api.Line{Kind: api.U, C: 2}, 1, 0},
	{api.Mountain, api.Line{Kind: api.V, C: 1}, 0, 0}, {api.Mountain, api.Line{Kind: api.D, C: 0}, math.MaxInt, math.MinInt},
	{api.Mountain, api.Line{Kind: api.H, C: 1}, math.MinInt, math.MinInt}, {api.Mountain, api.Line{Kind: api.H, C: 1}, math.MaxInt, math.MaxInt},
}

// someSheets returns small sheets, narrow ones, and large ones.
func someSheets() []sheets.Sheet {
	return []sheets.Sheet{{W: 1, H: 1}, {W: 2, H: 1}, {W: 1, H: 2}, {W: 2, H: 2}, {W: 3, H: 2}, {W: 2, H: 4}, {W: 5, H: 1}, {W: 64, H: 4}, {W: 16, H: 16}, {W: 256, H: 1}, {W: 1, H: 256}}
}

// must returns the segment with a text.
func must(t *testing.T, s string) Segment {
	t.Helper()
	x, e := Parse(s)
	if e != api.OK {
		t.Fatalf("%q: %d", s, e)
	}
	return x
}

// list returns the segments whose texts stand in s, divided by semicolons.
func list(t *testing.T, s string) []Segment {
	t.Helper()
	var out []Segment
	for w := range strings.SplitSeq(s, "; ") {
		if w != "" {
			out = append(out, must(t, w))
		}
	}
	return out
}

// texts returns the texts of segments, divided by semicolons.
func texts(l []Segment) string {
	var out []string
	for _, x := range l {
		out = append(out, Text(x))
	}
	return strings.Join(out, "; ")
}

// linesOf returns all lines that may cross a sheet, and some beside it.
func linesOf(s sheets.Sheet) []api.Line {
	var out []api.Line
	for k := api.V; k <= api.D; k++ {
		for c := -s.W - 2; c <= s.W+s.H+2; c++ {
			out = append(out, api.Line{Kind: k, C: c})
		}
	}
	return out
}

// span returns the places between which a line lies strictly within a sheet, and the length of its units; nothing if it does not.
func span(s sheets.Sheet, l api.Line) (from, to, length int) {
	switch c := l.C; l.Kind {
	case api.V:
		if 0 < c && c < s.W {
			return 0, 2 * s.H, 2
		}
	case api.H:
		if 0 < c && c < s.H {
			return 0, 2 * s.W, 2
		}
	case api.U: // y = c - x is from 0 to H
		if from, to = max(0, 2*(c-s.H)), min(2*s.W, 2*c); from < to {
			return from, to, 1
		}
	case api.D: // y = c + x is from 0 to H
		if from, to = max(0, -2*c), min(2*s.W, 2*(s.H-c)); from < to {
			return from, to, 1
		}
	}
	return 0, 0, 0
}

// isMadeOfUnits reports whether a line has units from a place to another one.
func isMadeOfUnits(s sheets.Sheet, l api.Line, from, to int) bool {
	low, high, length := span(s, l)
	return length != 0 && low <= from && to <= high && from%length == 0 && to%length == 0
}

// placeOn is the place of a point, as the document defines it.
func placeOn(l api.Line, p api.Point) int {
	return map[api.LineKind]int{api.V: p.Y, api.H: p.X, api.U: p.X, api.D: p.X}[l.Kind]
}

// checkUnits checks that units are those of a segment: they lie on its line, from From to To, one after the other.
func checkUnits(t *testing.T, s sheets.Sheet, x Segment, l []sheets.Unit) {
	t.Helper()
	at := x.From
	for _, u := range l {
		line, e := sheets.Line(s, u)
		ends, f := sheets.Ends(s, u)
		if e != api.OK || f != api.OK || line != x.Line || placeOn(line, ends[0]) != at {
			t.Fatalf("%v, %v: %v", s, x, l)
		}
		at = placeOn(line, ends[1])
	}
	if at != x.To {
		t.Fatalf("%v, %v: %v, which end at %d", s, x, l, at)
	}
}

// checkSegment checks what Check and Units return for a segment that is valid but for the sheet.
func checkSegment(t *testing.T, s sheets.Sheet, x Segment) {
	t.Helper()
	want := api.ErrNone
	if isMadeOfUnits(s, x.Line, x.From, x.To) {
		want = api.OK
	}
	l, e := Units(s, x)
	if f := Check(s, x); e != want || f != want {
		t.Fatalf("%v, %v: Units %d, Check %d, expected %d", s, x, e, f, want)
	}
	if e != api.OK {
		if len(l) != 0 {
			t.Fatalf("%v, %v: %v with an error", s, x, l)
		}
		return
	}
	checkUnits(t, s, x, l)
	if cap(l) != len(l) {
		t.Fatalf("%v, %v: capacity %d, length %d", s, x, cap(l), len(l))
	}
	was := slices.Clone(l)
	clear(l)
	if again, _ := Units(s, x); !slices.Equal(again, was) {
		t.Fatalf("%v, %v: %v, and before %v", s, x, again, was)
	}
}

func TestCheckAndUnitsExamples(t *testing.T) { // P7.1, P7.2
	for _, x := range []struct {
		text string
		want []sheets.Unit
		e    api.Errno
	}{
		{"m x 1 0 4", []sheets.Unit{{Cell: 1, Edge: 0}, {Cell: 9, Edge: 0}}, api.OK},
		{"v u 2 0 4", []sheets.Unit{{Cell: 10, Edge: 1}, {Cell: 8, Edge: 1}, {Cell: 6, Edge: 1}, {Cell: 4, Edge: 1}}, api.OK},
		{"a d 0 0 4", []sheets.Unit{{Cell: 0, Edge: 2}, {Cell: 1, Edge: 2}, {Cell: 12, Edge: 2}, {Cell: 13, Edge: 2}}, api.OK},
		{"v y 1 0 4", []sheets.Unit{{Cell: 2, Edge: 0}, {Cell: 6, Edge: 0}}, api.OK},
		{"v y 1 2 4", []sheets.Unit{{Cell: 6, Edge: 0}}, api.OK},
		{"m x 1 0 2", []sheets.Unit{{Cell: 1, Edge: 0}}, api.OK}, {"m u 2 1 3", []sheets.Unit{{Cell: 8, Edge: 1}, {Cell: 6, Edge: 1}}, api.OK}, {"a d -1 2 3", []sheets.Unit{{Cell: 4, Edge: 2}}, api.OK},
		{"m x 1 1 3", nil, api.ErrNone}, {"m x 1 0 6", nil, api.ErrNone}, {"m x 0 0 2", nil, api.ErrNone}, {"m x 1 0 3", nil, api.ErrNone}, {"m x 1 1 2", nil, api.ErrNone}, {"m x 1 -2 2", nil, api.ErrNone},
		{"m x 2 0 2", nil, api.ErrNone}, {"m y 0 0 2", nil, api.ErrNone}, {"m y 2 0 2", nil, api.ErrNone}, {"m y 1 0 1", nil, api.ErrNone}, {"m u 0 0 1", nil, api.ErrNone}, {"m u 4 3 4", nil, api.ErrNone},
		{"m u 2 0 5", nil, api.ErrNone}, {"m u 2 -1 4", nil, api.ErrNone}, {"m u 2 -2 -1", nil, api.ErrNone}, {"m d 2 0 1", nil, api.ErrNone}, {"m d 0 4 5", nil, api.ErrNone}, {"m d -1 1 3", nil, api.ErrNone},
	} {
		l, e := Units(four, must(t, x.text))
		if f := Check(four, must(t, x.text)); e != x.e || f != x.e || !slices.Equal(l, x.want) {
			t.Errorf("%s: %v, %d, and Check %d", x.text, l, e, f)
		}
	}
}

func TestCheckAndUnitsOnSmallSheets(t *testing.T) { // P7.1, P7.2: all segments
	for _, s := range []sheets.Sheet{{W: 1, H: 1}, {W: 2, H: 1}, {W: 1, H: 3}, {W: 2, H: 2}, {W: 3, H: 2}} {
		for _, l := range linesOf(s) {
			for from := -3; from < 9; from++ {
				for to := from + 1; to < 10; to++ {
					checkSegment(t, s, Segment{api.Kind(1 + (from+to+6)%3), l, from, to})
				}
			}
		}
	}
}

func TestCheckAndUnitsOnAllSheets(t *testing.T) { // P7.1, P7.2: at the ends of lines
	for _, s := range someSheets() {
		for i, l := range linesOf(s) {
			from, to, length := span(s, l)
			if length == 0 {
				from, to, length = 0, 2, 2
			} else if s.W > 5 && i%7 != 0 && l.C != 1 && l.C != s.W-1 {
				continue
			}
			for _, x := range [][2]int{{from, to}, {from - length, to}, {from, to + length}, {from - 1, to}, {from, to + 1}, {from, from + length}, {to - length, to}, {to, to + length}, {from - length, from}} {
				checkSegment(t, s, Segment{api.Any, l, x[0], x[1]})
			}
		}
	}
}

func TestCheckAndUnitsFarAway(t *testing.T) { // P7.1, P7.2
	places := []int{math.MinInt, math.MinInt + 1, -1 << 32, -4097, -4096, -2, 0, 1, 2, 4, 4096, 4097, 1 << 32, 1<<32 + 2, math.MaxInt - 1, math.MaxInt}
	for _, s := range []sheets.Sheet{four, {W: 256, H: 1}} {
		for k := api.V; k <= api.D; k++ {
			for _, c := range []int{-4096, -1, 0, 1, 2, 4096} {
				for i, from := range places {
					for _, to := range places[i+1:] {
						checkSegment(t, s, Segment{api.Mountain, api.Line{Kind: k, C: c}, from, to})
					}
				}
			}
		}
	}
}

func TestCheckAndUnitsErrors(t *testing.T) { // P7.1, P7.2: first the sheet, then the segment by itself
	good := []Segment{must(t, "m x 1 0 2"), must(t, "m x 1 0 6")}
	for _, s := range badSheets {
		for _, x := range append(good, badSegments...) {
			l, e := Units(s, x)
			if f := Check(s, x); e != api.ErrArg || f != api.ErrArg || len(l) != 0 {
				t.Errorf("%v, %v: %v, %d, %d", s, x, l, e, f)
			}
		}
	}
	for _, s := range []sheets.Sheet{{W: 1, H: 1}, four, {W: 16, H: 16}} {
		for _, x := range badSegments {
			l, e := Units(s, x)
			if f := Check(s, x); e != api.ErrArg || f != api.ErrArg || len(l) != 0 {
				t.Errorf("%v, %v: %v, %d, %d", s, x, l, e, f)
			}
		}
	}
}

// checkPattern returns the pattern of segments, which are not changed, and checks that it is valid, and memory of its own.
func checkPattern(t *testing.T, s sheets.Sheet, l []Segment) patterns.Pattern {
	t.Helper()
	is := slices.Clone(l)
	p, i, e := Pattern(s, is)
	if e != api.OK || i != 0 || p.Sheet != s || patterns.Check(p) != api.OK || cap(p.Creases) != len(p.Creases) {
		t.Fatalf("%v, %v: %v, %d, %d, capacity %d", s, texts(l), p, i, e, cap(p.Creases))
	}
	was := patterns.Pattern{Sheet: p.Sheet, Creases: slices.Clone(p.Creases)}
	clear(p.Creases)
	if again, _, _ := Pattern(s, is); !patterns.Same(again, was) || !slices.Equal(is, l) {
		t.Fatalf("%v, %v: %v, and before %v", s, is, again, was)
	}
	return was
}

func TestPatternExamples(t *testing.T) { // P7.4
	for _, x := range []struct {
		in   string
		want []patterns.Crease
	}{
		{"", nil},
		{"m x 1 0 4", []patterns.Crease{{Cell: 1, Edge: 0, Kind: 1}, {Cell: 9, Edge: 0, Kind: 1}}},
		{"m x 1 0 2; v x 1 2 4", []patterns.Crease{{Cell: 1, Edge: 0, Kind: 1}, {Cell: 9, Edge: 0, Kind: 2}}},
		// The segments may come in any order, and need not be the longest ones.
		{"v x 1 2 4; v x 1 0 2", []patterns.Crease{{Cell: 1, Edge: 0, Kind: 2}, {Cell: 9, Edge: 0, Kind: 2}}},
		{"v u 2 0 4", []patterns.Crease{{Cell: 4, Edge: 1, Kind: 2}, {Cell: 6, Edge: 1, Kind: 2}, {Cell: 8, Edge: 1, Kind: 2}, {Cell: 10, Edge: 1, Kind: 2}}},
		{"a d 0 2 3; m u 2 1 2; v y 1 0 2", []patterns.Crease{{Cell: 2, Edge: 0, Kind: 2}, {Cell: 8, Edge: 1, Kind: 1}, {Cell: 12, Edge: 2, Kind: 3}}},
	} {
		if p := checkPattern(t, four, list(t, x.in)); !slices.Equal(p.Creases, x.want) {
			t.Errorf("%s: %v", x.in, p.Creases)
		}
	}
}

func TestPatternErrors(t *testing.T) { // P7.4
	arg := []Segment{must(t, "m x 1 0 2"), badSegments[1], must(t, "m x 0 0 2"), must(t, "m x 1 0 2")}
	for i, x := range []struct {
		l  []Segment
		at int
		e  api.Errno
	}{
		{list(t, "m x 1 0 4; v x 1 2 4"), 1, api.ErrThere}, {list(t, "v x 1 2 4; m x 1 0 4"), 1, api.ErrThere}, {list(t, "a u 2 0 2; m x 1 0 4; a u 2 1 2"), 2, api.ErrThere},
		{list(t, "a u 2 0 2; a u 2 2 4; a u 2 1 3"), 2, api.ErrThere}, {list(t, "m y 1 0 2; m y 1 0 2"), 1, api.ErrThere}, {list(t, "m y 1 0 2; v y 1 2 4; v y 1 2 4; m x 0 0 2"), 2, api.ErrThere},
		{list(t, "m x 0 0 2"), 0, api.ErrNone}, {list(t, "m x 1 0 2; m x 1 0 6"), 1, api.ErrNone}, {list(t, "m x 5 0 2; m x 1 0 2; m x 1 0 2"), 0, api.ErrNone}, {list(t, "m x 1 0 2; m y 1 1 3; m x 1 0 2"), 1, api.ErrNone},
		{arg, 1, api.ErrArg}, {arg[1:], 0, api.ErrArg}, {arg[2:], 0, api.ErrNone},
	} {
		if p, at, e := Pattern(four, x.l); at != x.at || e != x.e || p.Sheet != (sheets.Sheet{}) || len(p.Creases) != 0 {
			t.Errorf("%d: %v, %d, %d", i, p, at, e)
		}
	}
	for _, bad := range badSegments {
		if p, at, e := Pattern(four, []Segment{must(t, "m x 1 0 2"), must(t, "v x 1 2 4"), bad}); at != 2 || e != api.ErrArg || p.Sheet != (sheets.Sheet{}) || len(p.Creases) != 0 {
			t.Errorf("%v: %v, %d, %d", bad, p, at, e)
		}
	}
	for _, s := range badSheets {
		for _, l := range [][]Segment{nil, {}, list(t, "m x 1 0 2; m x 1 0 2"), {must(t, "m x 1 0 2"), badSegments[1]}} {
			if p, at, e := Pattern(s, l); at != 0 || e != api.ErrArg || p.Sheet != (sheets.Sheet{}) || len(p.Creases) != 0 {
				t.Errorf("%v, %v: %v, %d, %d", s, l, p, at, e)
			}
		}
	}
}
