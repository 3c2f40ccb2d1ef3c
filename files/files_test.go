package files

import (
	"fmt"
	"math"
	"math/rand"
	"slices"
	"strings"
	"testing"

	"crimp/api"
	"crimp/patterns"
	"crimp/segments"
	"crimp/sheets"
)

// badSheets are sheets that are not valid.
var badSheets = []sheets.Sheet{
	{}, {W: 0, H: 1}, {W: 1, H: 0}, {W: -1, H: -1}, {W: 257, H: 1}, {W: 17, H: 16},
	{W: math.MaxInt, H: 1}, {W: 1, H: math.MinInt}, {W: 1 << 32, H: 1 << 32},
}

// someSheets are small sheets, narrow ones, and large ones.
var someSheets = []sheets.Sheet{{W: 1, H: 1}, {W: 2, H: 1}, {W: 1, H: 2}, {W: 2, H: 2}, {W: 3, H: 2}, {W: 2, H: 5}, {W: 12, H: 4}, {W: 16, H: 16}, {W: 256, H: 1}, {W: 1, H: 256}, {W: 2, H: 128}}

// chosen returns the pattern of a sheet with a crease on each unit for which choose returns a kind.
func chosen(s sheets.Sheet, choose func(u sheets.Unit) api.Kind) patterns.Pattern {
	p := patterns.Pattern{Sheet: s}
	units, _ := sheets.Units(s)
	for _, u := range units {
		if k := choose(u); k != 0 {
			p.Creases = append(p.Creases, patterns.Crease{Cell: u.Cell, Edge: u.Edge, Kind: k})
		}
	}
	return p
}

// finest returns the pattern of a sheet with a crease on each unit, each of which is a segment by itself.
func finest(s sheets.Sheet) patterns.Pattern {
	return chosen(s, func(u sheets.Unit) api.Kind {
		l, _ := sheets.Line(s, u)
		ends, _ := sheets.Ends(s, u)
		switch l.Kind {
		case api.V:
			return api.Kind(1 + ends[0].Y/2%3)
		case api.H:
			return api.Kind(1 + ends[0].X/2%3)
		}
		return api.Kind(1 + ends[0].X%3)
	})
}

// somePatterns returns patterns without creases, with some, and with all.
func somePatterns() []patterns.Pattern {
	r := rand.New(rand.NewSource(11))
	var out []patterns.Pattern
	for _, s := range someSheets {
		out = append(out, patterns.Pattern{Sheet: s}, patterns.Pattern{Sheet: s, Creases: []patterns.Crease{}}, finest(s))
		for k := api.Mountain; k <= api.Any; k++ {
			out = append(out, chosen(s, func(sheets.Unit) api.Kind { return k }))
			out = append(out, chosen(s, func(sheets.Unit) api.Kind { return k * api.Kind(r.Intn(2)) }))
			out = append(out, chosen(s, func(sheets.Unit) api.Kind { return api.Kind(r.Intn(4)) }))
		}
	}
	return out
}

// body returns lines, which are divided by semicolons, each of them ended.
func body(l string) string {
	return strings.ReplaceAll(l, "; ", "\n") + "\n"
}

// file returns lines, which are divided by semicolons, with the right end.
func file(l string) string {
	return body(l) + fmt.Sprintf("end %d\n", sumOf(body(l)))
}

// longFiles are the first lines of long files, and what is wrong with these: a line, and an error.
var longFiles = []struct {
	sheet string
	line  int
	e     api.Errno
}{{"crease 2 1", 3, api.ErrThere}, {"crease 1 1", 2, api.ErrNone}, {"crease 0 1", 1, api.ErrArg}}

// longBody returns a body of many bytes: a sheet, and the same segment again and again, with a letter for its kind.
func longBody(sheet, letter string, bytes int) string {
	line := letter + " x 1 0 2\n"
	rest := bytes - len(sheet+"\n")
	longer := rest % len(line)
	return sheet + "\n" + strings.Repeat(line, rest/len(line)-longer) + strings.Repeat(letter+" x 1 0 20\n", longer)
}

// longFile returns a file of many bytes with the right end, which has five digits.
func longFile(t *testing.T, sheet string, bytes int) string {
	t.Helper()
	for _, letter := range []string{"m", "v", "a"} {
		s := longBody(sheet, letter, bytes-len("end 12345\n"))
		if s += fmt.Sprintf("end %d\n", sumOf(s)); len(s) == bytes {
			return s
		}
	}
	t.Fatalf("%s: there is no file of %d bytes", sheet, bytes)
	return ""
}

// fileOf returns the file of a valid pattern, as the document defines it.
func fileOf(p patterns.Pattern) string {
	l := fmt.Sprintf("crease %d %d", p.Sheet.W, p.Sheet.H)
	all, _ := segments.Of(p)
	for _, x := range all {
		l += "; " + segments.Text(x)
	}
	return file(l)
}

func TestEncodeExamples(t *testing.T) { // P11.2
	if MaxFile != 65536 {
		t.Errorf("MaxFile is %d", MaxFile)
	}
	on := func(w, h int, l ...patterns.Crease) patterns.Pattern {
		return patterns.Pattern{Sheet: sheets.Sheet{W: w, H: h}, Creases: l}
	}
	mountain, valley := patterns.Crease{Cell: 1, Edge: 0, Kind: api.Mountain}, patterns.Crease{Cell: 9, Edge: 0, Kind: api.Valley}
	for _, x := range []struct {
		p    patterns.Pattern
		want string
	}{
		{on(1, 1), "crease 1 1\nend 19496\n"},
		{on(16, 16), "crease 16 16\nend 23209\n"},
		{on(2, 1, mountain), "crease 2 1\nm x 1 0 2\nend 39679\n"},
		{on(256, 1), file("crease 256 1")},
		{on(1, 256), file("crease 1 256")},
		{on(2, 2, mountain, valley), file("crease 2 2; m x 1 0 2; v x 1 2 4")},
		{on(2, 2, mountain, patterns.Crease{Cell: 9, Edge: 0, Kind: api.Mountain}), file("crease 2 2; m x 1 0 4")},
		{on(2, 1, patterns.Crease{Cell: 0, Edge: 1, Kind: api.Any}, mountain, patterns.Crease{Cell: 4, Edge: 2, Kind: api.Valley}), file("crease 2 1; m x 1 0 2; a u 1 1 2; v d -1 2 3")},
	} {
		if got, e := Encode(x.p); e != api.OK || got != x.want {
			t.Errorf("%v: %q, %d, expected %q", x.p, got, e, x.want)
		}
	}
}

func TestEncode(t *testing.T) { // P11.2
	for _, p := range somePatterns() {
		was := slices.Clone(p.Creases)
		if got, e := Encode(p); e != api.OK || got != fileOf(p) {
			t.Errorf("%v: %q, %d, expected %q", p, got, e, fileOf(p))
		}
		if !slices.Equal(p.Creases, was) {
			t.Errorf("%v: the creases were %v", p, was)
		}
	}
}

func TestLongestFiles(t *testing.T) { // P11.2, P11.5: no pattern exceeds MaxFile, nor can a byte that is changed stand 65504 bytes before the end
	for w := 1; w <= api.MaxSquares; w++ {
		p := finest(sheets.Sheet{W: w, H: api.MaxSquares / w})
		s, e := Encode(p)
		if lines := strings.Count(s, "\n"); e != api.OK || lines != len(p.Creases)+2 || len(s) >= 65504 {
			t.Errorf("%v: %d lines, %d bytes, %d", p.Sheet, lines, len(s), e)
		}
	}
}

func TestFits(t *testing.T) { // P11.2: as no pattern exceeds MaxFile, ErrLimit of Encode is tested by what decides on it
	for n, want := range map[int]bool{0: true, 1: true, MaxFile - 1: true, MaxFile: true, MaxFile + 1: false, 2 * MaxFile: false} {
		if got := fits(strings.Repeat("x", n)); got != want {
			t.Errorf("%d bytes: %t", n, got)
		}
	}
}

func TestEncodeErrors(t *testing.T) { // P11.2: those of patterns.Check
	good, late := patterns.Crease{Cell: 0, Edge: 1, Kind: api.Any}, patterns.Crease{Cell: 1, Edge: 0, Kind: api.Any}
	kind, unit := patterns.Crease{Cell: 1, Edge: 2}, patterns.Crease{Cell: 7, Edge: 0, Kind: api.Any}
	on := func(l ...patterns.Crease) patterns.Pattern {
		return patterns.Pattern{Sheet: sheets.Sheet{W: 2, H: 1}, Creases: l}
	}
	type bad struct {
		p patterns.Pattern
		e api.Errno
	}
	all := []bad{
		{on(kind), api.ErrArg}, {on(good, unit, kind), api.ErrArg}, {on(late, good, kind), api.ErrArg}, {on(patterns.Crease{Cell: 1, Edge: 0, Kind: 4}), api.ErrArg},
		{on(unit), api.ErrNone}, {on(late, good, unit), api.ErrNone}, {on(patterns.Crease{Cell: 1 << 62, Edge: 0, Kind: api.Any}), api.ErrNone}, {on(patterns.Crease{Cell: 0, Edge: 3, Kind: api.Any}), api.ErrNone},
		{on(late, good), api.ErrState}, {on(good, good), api.ErrState},
	}
	for _, s := range badSheets {
		all = append(all, bad{patterns.Pattern{Sheet: s}, api.ErrArg}, bad{patterns.Pattern{Sheet: s, Creases: []patterns.Crease{late, good, unit}}, api.ErrArg})
	}
	for _, x := range all {
		if s, e := Encode(x.p); e != x.e || s != "" {
			t.Errorf("%v: %q, %d, expected %d", x.p, s, e, x.e)
		}
	}
}
