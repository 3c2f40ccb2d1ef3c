package moves

import (
	"fmt"
	"math"
	"strings"
	"testing"

	"crimp/api"
)

func TestText(t *testing.T) { // P2.5
	for _, m := range someMoves() {
		s := fmt.Sprintf("%d %d %d", m.Turn, m.X, m.Y)
		if got := Text(m); got != s {
			t.Errorf("%v: %q, expected %q", m, got, s)
		}
		if got, e := Parse(s); e != api.OK || got != m {
			t.Errorf("%q: %v, %d", s, got, e)
		}
	}
	for _, m := range badMoves {
		if got := Text(m); got != "" {
			t.Errorf("%v: %q", m, got)
		}
	}
}

func TestTextExamples(t *testing.T) { // P2.5
	for s, want := range map[string]Move{"0 0 0": {}, "3 -4 2": {Turn: 3, X: -4, Y: 2}, "7 -16384 16384": {Turn: 7, X: -16384, Y: 16384}, "5 16383 -1": {Turn: 5, X: 16383, Y: -1}} {
		if m, e := Parse(s); e != api.OK || m != want || Text(want) != s {
			t.Errorf("%q: %v, %d, and %q", s, m, e, Text(want))
		}
	}
}

func TestParseErrors(t *testing.T) { // P2.5
	bad := []string{
		"", " ", "  ", "0", "0 0", "0 0 ", " 0 0", "0 0 0 ", " 0 0 0", "0  0 0", "0 0  0", "0 0 0 0", "0 0 0 x", "000", "0,0,0", "0\t0\t0", "0 0 0\n", "0 0 0\x00",
		"00 0 0", "0 00 0", "0 0 00", "01 0 0", "0 02 0", "0 0 02", "0 0 -02", "-0 0 0", "0 -0 0", "0 0 -0", "+0 0 0", "0 +2 0", "0 0 +2", "0 --2 0", "0 - 0", "0 2- 0", "0 - 2 0",
		"x 0 0", "0 x 0", "0 0 x", "0 2x 0", "0 0x2 0", "0 1_6 0", "0 2e1 0", "0 2.0 0", "0 ٢ 0", "0 ２ 0", "0\u00a00 0", "\xff 0 0", "0 0 \xff", "é 0 0",
		"8 0 0", "9 0 0", "-1 0 0", "10 0 0", "255 0 0", "256 0 0", "257 0 0", "18446744073709551616 0 0",
		"0 1 0", "0 0 1", "7 -3 2", "0 16386 0", "0 -16386 0", "0 0 16386", "0 0 -16386", "0 16385 1", "0 163840 0",
		"0 4294967296 0", "0 18446744073709551616 0", "0 0 99999999999999999999", "0 0 -99999999999999999999",
		fmt.Sprint("0 ", math.MaxInt, " 0"), fmt.Sprint("0 0 ", math.MinInt), fmt.Sprint("0 ", math.MaxInt, " ", math.MaxInt),
		strings.Repeat("0 ", 1000), "0 0 " + strings.Repeat("0", 1000), strings.Repeat("0", 1000) + " 0 0",
	}
	for _, s := range bad {
		if m, e := Parse(s); e != api.ErrForm || m != (Move{}) {
			t.Errorf("%q: %v, %d", s, m, e)
		}
	}
}

// FuzzParse checks that whatever can be parsed is the text of what it is parsed to.
func FuzzParse(f *testing.F) {
	for _, s := range []string{"0 0 0", "7 -16384 16384", "3 -1 5", "8 0 0", "0 -0 0", "é 0 0", ""} {
		f.Add(s)
	}
	f.Fuzz(func(t *testing.T, s string) {
		m, e := Parse(s)
		switch e {
		case api.OK:
			if Check(m) != api.OK || Text(m) != s {
				t.Errorf("%q: %v", s, m)
			}
		case api.ErrForm:
			if m != (Move{}) {
				t.Errorf("%q: %v with an error", s, m)
			}
		default:
			t.Errorf("%q: %d", s, e)
		}
	})
}
