package files

import (
	"fmt"
	"math/rand"
	"regexp"
	"slices"
	"strings"
	"testing"

	"crimp/api"
	"crimp/patterns"
	"crimp/segments"
	"crimp/sheets"
)

// These tests are for P11.5, what follows from the other promises, and for all errors of P11.3 in files that are changed by chance.

// someFiles returns the files of some patterns.
func someFiles(t *testing.T) []string {
	t.Helper()
	var out []string
	for _, p := range somePatterns() {
		s, e := Encode(p)
		if e != api.OK {
			t.Fatalf("%v: %d", p, e)
		}
		out = append(out, s)
	}
	return out
}

func TestDecodeInvertsEncode(t *testing.T) {
	for _, p := range somePatterns() {
		s, e := Encode(p)
		if e != api.OK {
			t.Fatalf("%v: %d", p, e)
		}
		if q := checkDecode(t, s); !patterns.Same(p, q) {
			t.Errorf("%v: the pattern of its file is %v", p, q)
		}
	}
}

// checkRefused checks that Decode does not accept a text.
func checkRefused(t *testing.T, s string) {
	t.Helper()
	if p, line, e := Decode(s); e == api.OK || line == 0 || p.Sheet != (sheets.Sheet{}) || len(p.Creases) != 0 {
		t.Fatalf("%q: %v, line %d, error %d", s, p, line, e)
	}
}

func TestOneByteIsChanged(t *testing.T) {
	for _, l := range []string{"crease 1 1", "crease 2 1; m x 1 0 2", "crease 2 4; m u 4 1 4; v u 5 2 4", "crease 16 1; m x 1 0 2; a x 11 0 2; v u 10 18 19; a d -13 26 27"} {
		s := []byte(file(l))
		checkDecode(t, string(s))
		for i, was := range s {
			for c := range 256 {
				if s[i] = byte(c); s[i] != was {
					checkRefused(t, string(s))
				}
			}
			s[i] = was
		}
	}
	r := rand.New(rand.NewSource(12))
	for _, file := range someFiles(t) {
		s := []byte(file)
		for range 20 {
			i := r.Intn(len(s))
			was := s[i]
			s[i] += byte(1 + r.Intn(255))
			checkRefused(t, string(s))
			s[i] = was
		}
	}
}

func TestMendOfFiles(t *testing.T) {
	for _, s := range someFiles(t) {
		before := s[:strings.LastIndex(s, "end ")]
		checkMend(t, s, s)
		checkMend(t, before, s)
		for _, n := range []string{"0", "5", "65520", "65521", "123456789", "999999999"} {
			checkMend(t, before+"end "+n+"\n", s)
		}
	}
}

// The first line and the last one of a file.
var (
	firstLine = regexp.MustCompile(`^crease (0|[1-9][0-9]{0,8}) (0|[1-9][0-9]{0,8})\n$`)
	lastLine  = regexp.MustCompile(`^end (0|[1-9][0-9]{0,8})\n$`)
)

// malformed returns the number of the first line that is not that of a file, or is missing; otherwise 0.
func malformed(lines []string) int {
	for i, line := range lines {
		text, whole := strings.CutSuffix(line, "\n")
		_, e := segments.Parse(text)
		switch {
		case !whole || i == 0 && !firstLine.MatchString(line):
			return i + 1
		case i > 0 && lastLine.MatchString(line) && i == len(lines)-1:
			return 0
		case i > 0 && lastLine.MatchString(line):
			return i + 2
		case i > 0 && e != api.OK:
			return i + 1
		}
	}
	return len(lines) + 1
}

// wrongLine returns the line and the error that a text has, as the document defines it; 0 and OK if it is a file.
func wrongLine(s string) (int, api.Errno) {
	if len(s) > MaxFile {
		return 0, api.ErrLimit
	}
	lines := slices.Collect(strings.Lines(s))
	if n := malformed(lines); n != 0 {
		return n, api.ErrForm
	}
	end := lines[len(lines)-1]
	if end != fmt.Sprintf("end %d\n", sumOf(strings.TrimSuffix(s, end))) {
		return len(lines), api.ErrSum
	}
	var sheet sheets.Sheet
	fmt.Sscanf(lines[0], "crease %d %d", &sheet.W, &sheet.H)
	if e := sheets.Check(sheet); e != api.OK {
		return 1, e
	}
	var all []segments.Segment
	for _, line := range lines[1 : len(lines)-1] {
		x, _ := segments.Parse(strings.TrimSuffix(line, "\n"))
		all = append(all, x)
	}
	p, i, e := segments.Pattern(sheet, all)
	if e != api.OK {
		return i + 2, e
	}
	right := slices.Collect(strings.Lines(fileOf(p)))
	for i, line := range lines {
		if line != right[i] {
			return i + 1, api.ErrState
		}
	}
	return 0, api.OK
}

// checkText checks what Decode and Mend return for any text.
func checkText(t *testing.T, s string) api.Errno {
	t.Helper()
	line, e := wrongLine(s)
	if e != api.OK {
		checkWrong(t, s, line, e)
	} else if back, f := Encode(checkDecode(t, s)); f != api.OK || back != s {
		t.Errorf("%q: Decode accepts it, but the file of its pattern is %q, %d", s, back, f)
	}
	before := s
	if lines := slices.Collect(strings.Lines(s)); len(lines) > 0 && lastLine.MatchString(lines[len(lines)-1]) {
		before = strings.TrimSuffix(s, lines[len(lines)-1])
	}
	mended := before + fmt.Sprintf("end %d\n", sumOf(before))
	_, f := wrongLine(mended)
	if len(s) > MaxFile {
		f = api.ErrLimit
	}
	if f == api.OK {
		checkMend(t, s, mended)
	} else {
		checkNoMend(t, s, f)
	}
	return e
}

// changedLines returns lines that are changed by chance.
func changedLines(l []string, r *rand.Rand) []string {
	out := slices.Clone(l)
	i, j := r.Intn(len(l)), r.Intn(len(l))
	switch r.Intn(6) {
	case 0:
		return slices.Delete(out, i, i+1)
	case 1:
		return slices.Insert(out, i, out[j])
	case 2:
		out[i], out[j] = out[j], out[i]
	case 3:
		at := r.Intn(len(out[i]) + 1)
		out[i] = out[i][:at] + string("0123456789 -\nmvaxyudend"[r.Intn(23)]) + out[i][at:]
	case 4:
		at := r.Intn(len(out[i]))
		out[i] = out[i][:at] + out[i][at+1:]
	case 5:
		if x, e := segments.Parse(strings.TrimSuffix(out[i], "\n")); e == api.OK && x.To-x.From > 1 { // in two parts
			y := x
			x.To = x.From + 1 + r.Intn(x.To-x.From-1)
			y.From = x.To
			out[i] = segments.Text(x) + "\n"
			return slices.Insert(out, i+1, segments.Text(y)+"\n")
		}
	}
	return out
}

func TestChangedFiles(t *testing.T) {
	r := rand.New(rand.NewSource(13))
	found := map[api.Errno]int{}
	for _, s := range someFiles(t) {
		if len(s) > 1000 { // short ones are changed more often in the same time
			continue
		}
		for range 100 {
			lines := slices.Collect(strings.Lines(s))
			for range 1 + r.Intn(2) {
				if len(lines) > 0 {
					lines = changedLines(lines, r)
				}
			}
			text := strings.Join(lines, "")
			found[checkText(t, text)]++
			found[checkText(t, strings.TrimSuffix(text, "\n"))]++
			found[checkText(t, text+fmt.Sprintf("end %d\n", sumOf(text)))]++
			if before := strings.LastIndex(text, "end "); before >= 0 {
				found[checkText(t, text[:before]+fmt.Sprintf("end %d\n", sumOf(text[:before])))]++
			}
		}
	}
	for _, e := range []api.Errno{api.OK, api.ErrForm, api.ErrSum, api.ErrArg, api.ErrNone, api.ErrThere, api.ErrState} {
		if found[e] < 10 {
			t.Errorf("the error %d was found only %d times", e, found[e])
		}
	}
}

// FuzzDecode checks that whatever is accepted is a file, and that of all else the first error is told.
func FuzzDecode(f *testing.F) {
	for _, s := range []string{"", "crease 1 1\nend 19496\n", "crease 2 1\nm x 1 0 2\nend 39679\n", "crease 3 1\nv x 2 0 2\nm x 1 0 2\nend 5\n", "crease 0 1\n", "end 17\n", "crease 2 2\nm x 1 0 2\nm x 1 2 4\n"} {
		f.Add(s)
	}
	f.Fuzz(func(t *testing.T, s string) {
		checkText(t, s)
		checkText(t, s+fmt.Sprintf("end %d\n", sumOf(s)))
	})
}
