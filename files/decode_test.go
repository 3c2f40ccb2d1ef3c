package files

import (
	"fmt"
	"slices"
	"strings"
	"testing"

	"crimp/api"
	"crimp/patterns"
	"crimp/sheets"
)

// checkDecode returns the pattern of a file, and checks that it is valid, and memory of its own.
func checkDecode(t *testing.T, s string) patterns.Pattern {
	t.Helper()
	p, line, e := Decode(s)
	if e != api.OK || line != 0 || patterns.Check(p) != api.OK || cap(p.Creases) != len(p.Creases) {
		t.Fatalf("%q: %v, line %d, error %d, capacity %d", s, p, line, e, cap(p.Creases))
	}
	was := patterns.Pattern{Sheet: p.Sheet, Creases: slices.Clone(p.Creases)}
	clear(p.Creases)
	if again, line, e := Decode(s); e != api.OK || line != 0 || !patterns.Same(again, was) {
		t.Fatalf("%q: %v, line %d, error %d, and before %v", s, again, line, e, was)
	}
	return was
}

// checkWrong checks that Decode tells of nothing but a line and an error.
func checkWrong(t *testing.T, s string, wantLine int, want api.Errno) {
	t.Helper()
	p, line, e := Decode(s)
	if line != wantLine || e != want || p.Sheet != (sheets.Sheet{}) || len(p.Creases) != 0 {
		t.Errorf("%.200q, %d bytes: %v, line %d, error %d, expected line %d, error %d", s, len(s), p, line, e, wantLine, want)
	}
}

func TestDecodeExamples(t *testing.T) { // P11.3
	for _, x := range []struct {
		s    string
		want []patterns.Crease
	}{
		{"crease 1 1\nend 19496\n", nil},
		{"crease 2 1\nm x 1 0 2\nend 39679\n", []patterns.Crease{{Cell: 1, Edge: 0, Kind: 1}}},
		{file("crease 2 1; m x 1 0 2; a u 1 1 2; v d -1 2 3"), []patterns.Crease{{Cell: 0, Edge: 1, Kind: 3}, {Cell: 1, Edge: 0, Kind: 1}, {Cell: 4, Edge: 2, Kind: 2}}},
		{file("crease 2 2; m x 1 0 2; v x 1 2 4"), []patterns.Crease{{Cell: 1, Edge: 0, Kind: 1}, {Cell: 9, Edge: 0, Kind: 2}}},
		{file("crease 256 1; m x 255 0 2"), []patterns.Crease{{Cell: 1017, Edge: 0, Kind: 1}}},
	} {
		if p := checkDecode(t, x.s); !slices.Equal(p.Creases, x.want) || !strings.HasPrefix(x.s, fmt.Sprintf("crease %d %d\n", p.Sheet.W, p.Sheet.H)) {
			t.Errorf("%q: %v", x.s, p)
		}
	}
	checkWrong(t, "crease 2 1\nm x 1 0 2\n", 3, api.ErrForm)
	checkWrong(t, file("crease 2 1; m x 1 0 2; m x 1 0 2"), 3, api.ErrThere)
	checkWrong(t, file("crease 3 1; v x 2 0 2; m x 1 0 2"), 2, api.ErrState)
}

func TestDecodeSums(t *testing.T) { // P11.3: also the least one, the greatest one, and one with a single digit
	for l, n := range map[string]int{"crease 2 4; m u 4 1 4; v u 5 2 4": 0, "crease 2 6; m u 4 0 4; v u 5 0 4": 5, "crease 3 3; v u 4 4 6; a u 5 4 6": 65520} {
		s := fmt.Sprintf("%send %d\n", body(l), n)
		if p := checkDecode(t, s); len(p.Creases) == 0 || fileOf(p) != s {
			t.Errorf("%q: %v", s, p)
		}
	}
}

func TestDecodeMalformedLines(t *testing.T) { // P11.3: ErrForm
	for _, first := range []string{
		"", " ", "crease", "crease ", "crease 1", "crease 1 ", "crease  1", "crease 1  1", "crease  1 1", " crease 1 1", "crease 1 1 ", "crease 1 1 1", "crease1 1", "crease 1,1", "crease\t1 1", "crease 1\t1", "crease 1 1\r", "crease 1 1\x00",
		"Crease 1 1", "CREASE 1 1", "creases 1 1", "creas 1 1", "crease crease 1 1", "1 1", "end 17", "m x 1 0 2", "\ufeffcrease 1 1", "crease 1\u00a01",
		"crease 01 1", "crease 1 01", "crease 00 1", "crease 1 00", "crease +1 1", "crease 1 +1", "crease -1 1", "crease 1 -1", "crease -0 1", "crease 1 -0", "crease 1 0x1", "crease a 1", "crease 1 a", "crease 1 1.0", "crease 1 1e0", "crease 1_0 1", "crease ١ 1", "crease 1 １", "crease 1/ 1", "crease 1 :1",
		"crease 1234567890 1", "crease 1 1234567890", "crease 0000000001 1", "crease 1 18446744073709551617", "crease 9223372036854775808 1", "crease 1 -9223372036854775809", "crease " + strings.Repeat("1", 1000) + " 1", "crease 1 " + strings.Repeat("0", 1000),
	} {
		checkWrong(t, file(first), 1, api.ErrForm)
		checkWrong(t, file(first+"; x"), 1, api.ErrForm)
		checkWrong(t, body(first), 1, api.ErrForm)
		checkWrong(t, first, 1, api.ErrForm)
	}
	for _, line := range []string{
		"", " ", "x", "m", "m x 1 0", "m x 1 0 2 ", " m x 1 0 2", "m  x 1 0 2", "m x 1 0 2\r", "m x 1 0 2\x00", "m x 01 0 2", "m x 1 2 0", "m x 1 0 0", "m x 4097 0 2", "m x 1 0 4097", "m x 1 -4097 2", "m z 1 0 2", "M x 1 0 2", "q x 1 0 2", "m x 1 +0 2", "m x 1 -0 2",
		"crease 2 2", "End 5", "end", "end ", "end  5", " end 5", "end 5 ", "end 5 5", "end5", "end 05", "end 00", "end +5", "end -5", "end -0", "end a", "end 5a", "end 5.0", "end ٥", "end\t5", "end 5\r", "end 1234567890", "end 0000000005", "end 18446744073709551621", "send 5", "end end 5", "end 5;",
	} {
		checkWrong(t, file("crease 2 2; "+line), 2, api.ErrForm)
		checkWrong(t, file("crease 2 2; "+line+"; v x 1 0 2"), 2, api.ErrForm)
		checkWrong(t, file("crease 2 2; v x 1 0 4; "+line), 3, api.ErrForm)
		checkWrong(t, file("crease 2 2; v x 1 0 4; v u 2 0 4; "+line+"; x"), 4, api.ErrForm)
		checkWrong(t, body("crease 2 2; "+line), 2, api.ErrForm)
		checkWrong(t, body("crease 2 2")+line, 2, api.ErrForm)
	}
}

func TestDecodeUnfinished(t *testing.T) { // P11.3: ErrForm for a line that is not ended, or the line behind the last one if there is no end
	s := "crease 2 2\nm x 1 0 4\nv u 2 0 4\nend 1\n"
	for n := range len(s) {
		checkWrong(t, s[:n], 1+strings.Count(s[:n], "\n"), api.ErrForm)
	}
	checkWrong(t, s, 4, api.ErrSum)
	checkWrong(t, body("crease 1 1"), 2, api.ErrForm)
	right := file("crease 1 1")
	checkWrong(t, right[:len(right)-1], 2, api.ErrForm)
	checkWrong(t, right[:len(right)-1]+"\r", 2, api.ErrForm)
	checkWrong(t, right[:len(right)-1]+"\r\n", 2, api.ErrForm)
	checkWrong(t, "end 17\n", 1, api.ErrForm)
}

func TestDecodeBehindTheEnd(t *testing.T) { // P11.3: ErrForm for the first line behind the end, whatever it is
	for _, behind := range []string{"\n", "x", "x\n", " ", "\x00", "\r\n", "end 5", "end 5\n", "m x 1 0 2\n", "m x 1 0 2\nend 5\n", "crease 2 2\n", "\n\n\n", file("crease 1 1")} {
		checkWrong(t, file("crease 2 2")+behind, 3, api.ErrForm)
		checkWrong(t, file("crease 2 2; v u 2 0 4; a d 0 0 4")+behind, 5, api.ErrForm)
		checkWrong(t, "crease 2 2\nend 5\n"+behind, 3, api.ErrForm)
		checkWrong(t, "crease 0 0\nm x 1 0 2\nend 5\n"+behind, 4, api.ErrForm)
	}
	// Also if the check sequence at the end is the right one.
	checkWrong(t, file("crease 2 2; end 5"), 3, api.ErrForm)
	checkWrong(t, file("crease 2 2; m x 1 0 4; end 5; end 6"), 4, api.ErrForm)
}

func TestDecodeWrongSum(t *testing.T) { // P11.3
	for _, l := range []string{"crease 1 1", "crease 2 1; m x 1 0 2", "crease 2 2; m x 1 0 2; v x 1 2 4"} {
		right, lines := int(sumOf(body(l))), strings.Count(body(l), "\n")
		for _, n := range []int{0, 1, 5, 17, right - 1, right + 1, right + 65521, right + 65536, 10 * right, 65520, 65521, 65535, 65536, 999999999} {
			if n != right {
				checkWrong(t, fmt.Sprintf("%send %d\n", body(l), n), lines+1, api.ErrSum)
			}
		}
		checkDecode(t, fmt.Sprintf("%send %d\n", body(l), right))
	}
}

func TestDecodeErrors(t *testing.T) { // P11.3: the errors of sheets.Check and of segments.Pattern, and ErrState
	for _, x := range []struct {
		l    string
		line int
		e    api.Errno
	}{
		{"crease 0 1", 1, api.ErrArg}, {"crease 1 0", 1, api.ErrArg}, {"crease 0 0", 1, api.ErrArg}, {"crease 257 1", 1, api.ErrArg}, {"crease 17 16", 1, api.ErrArg}, {"crease 123456789 1", 1, api.ErrArg}, {"crease 999999999 999999999", 1, api.ErrArg},
		{"crease 0 1; m x 1 0 3; m x 1 0 2", 1, api.ErrArg}, {"crease 17 16; m x 1 0 2", 1, api.ErrArg},
		{"crease 2 1; m x 1 0 3", 2, api.ErrNone}, {"crease 2 1; m x 2 0 2", 2, api.ErrNone}, {"crease 2 1; m x 1 0 4", 2, api.ErrNone}, {"crease 2 1; m x 1 0 2; v u 1 1 3", 3, api.ErrNone}, {"crease 2 1; m d 4096 -4096 4096", 2, api.ErrNone},
		{"crease 2 1; m x 1 0 2; v x 1 0 2", 3, api.ErrThere}, {"crease 2 2; m x 1 0 4; m y 1 0 4; m x 1 2 4", 4, api.ErrThere}, {"crease 2 1; m x 1 0 2; m x 1 0 2; m x 9 0 2", 3, api.ErrThere}, {"crease 2 1; m x 1 0 2; m x 9 0 2; m x 1 0 2", 3, api.ErrNone},
		{"crease 2 2; m x 1 0 2; m x 1 2 4", 2, api.ErrState}, {"crease 2 2; v u 2 0 4; m x 1 0 4", 2, api.ErrState}, {"crease 2 2; v x 1 2 4; m x 1 0 2", 2, api.ErrState},
		{"crease 2 2; m x 1 0 2; v x 1 2 4; m y 1 2 4; m y 1 0 2", 4, api.ErrState}, {"crease 2 2; m x 1 0 2; v x 1 2 4; m y 1 0 2; m y 1 2 4", 4, api.ErrState}, {"crease 2 2; m x 1 0 4; a u 2 0 1; a u 2 1 2; a u 2 2 4; v d 0 0 4", 3, api.ErrState},
		{"crease 3 2; m x 1 0 4; v y 1 0 6; m x 2 0 4", 3, api.ErrState}, {"crease 2 2; m x 1 0 4; v d 0 0 2; v d -1 2 4", 3, api.ErrState}, {"crease 2 2; m x 1 0 4; v u 1 0 2; a u 3 3 4; a u 3 2 3", 4, api.ErrState},
		// ErrState comes last, also if it is that of a line before.
		{"crease 2 2; v u 2 0 4; m x 1 0 4; m x 1 0 5", 4, api.ErrNone}, {"crease 2 2; m x 1 0 2; m x 1 2 4; m x 1 0 4", 4, api.ErrThere},
	} {
		checkWrong(t, file(x.l), x.line, x.e)
		// What is malformed, and the check sequence, come first.
		lines := strings.Count(body(x.l), "\n")
		checkWrong(t, body(x.l)+"end 65521\n", lines+1, api.ErrSum)
		checkWrong(t, body(x.l)+"end 65521\nx\n", lines+2, api.ErrForm)
		checkWrong(t, body(x.l), lines+1, api.ErrForm)
		checkWrong(t, file(x.l+"; x"), lines+1, api.ErrForm)
		checkWrong(t, body(x.l+"; x")+"end 65521\n", lines+1, api.ErrForm)
	}
}

func TestDecodeLimit(t *testing.T) { // P11.3: only files with more than MaxFile bytes are too long; of others any error is told
	for _, s := range []string{"x", "\n", "crease 1 1\n", file("crease 1 1"), "crease 1 1\nend 5\n"} {
		long := strings.Repeat(s, MaxFile+1)
		checkWrong(t, long[:MaxFile+1], 0, api.ErrLimit)
		checkWrong(t, long, 0, api.ErrLimit)
	}
	checkWrong(t, strings.Repeat("x", MaxFile), 1, api.ErrForm)
	checkWrong(t, strings.Repeat("\n", MaxFile), 1, api.ErrForm)
	for _, x := range longFiles {
		for n := MaxFile - 2; n <= MaxFile; n++ {
			checkWrong(t, longFile(t, x.sheet, n), x.line, x.e)
		}
		checkWrong(t, longBody(x.sheet, "m", MaxFile), 1+strings.Count(longBody(x.sheet, "m", MaxFile), "\n"), api.ErrForm)
		checkWrong(t, longFile(t, x.sheet, MaxFile+1), 0, api.ErrLimit)
		checkWrong(t, longFile(t, x.sheet, MaxFile)+"\n", 0, api.ErrLimit)
	}
}
