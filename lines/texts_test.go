package lines

import (
	"math"
	"strconv"
	"testing"

	"crimp/api"
)

func TestText(t *testing.T) { // P1.5
	for k, letter := range kinds {
		for c := -4096; c <= 4096; c++ {
			l := api.Line{Kind: k, C: c}
			s := letter + " " + strconv.Itoa(c)
			if got := Text(l); got != s {
				t.Fatalf("%v: %q, expected %q", l, got, s)
			}
			if got, e := Parse(s); e != api.OK || got != l {
				t.Fatalf("%q: %v, %d", s, got, e)
			}
		}
	}
	for _, l := range badLines {
		if got := Text(l); got != "" {
			t.Errorf("%v: %q", l, got)
		}
	}
}

func TestParseErrors(t *testing.T) { // P1.5
	bad := []string{
		"", " ", "x", "x ", "1", "x1", "x1 ", "-x 1", "x -", "x - 1", "x --1", "x 1-", "x 1-2", "x -0", "y -0", "x 00", "x 01", "x -01", "x +1",
		" x 1", "x  1", "x 1 ", "x 1 2", "x 1\n", "x\t1", "x 1x", "xx 1", "xy 1", "x,1", "x 1.0", "x 1e3", "x 0x1", "x 1_0",
		"X 1", "v 1", "h 1", "z 1", "é 1", "\x00 1", "x \x001", "x 1\xff", "\xff 1", "x\xff1", "x ١", "x １", "ｘ 1", "x\u00a01",
		"x 4097", "y -4097", "u 40960", "d -40960", "x 99999", "x 99999999999999999999", "x 18446744073709551617", "x -18446744073709551616",
		"x " + strconv.Itoa(math.MaxInt), "x " + strconv.Itoa(math.MinInt), "x 4294967297",
	}
	for _, s := range bad {
		if l, e := Parse(s); e != api.ErrForm || l != (api.Line{}) {
			t.Errorf("%q: %v, %d", s, l, e)
		}
	}
	if l, e := Parse("y -2"); e != api.OK || l != (api.Line{Kind: api.H, C: -2}) {
		t.Errorf("y -2: %v, %d", l, e)
	}
}

// FuzzParse checks that whatever can be parsed is the text of what it is parsed to.
func FuzzParse(f *testing.F) {
	for _, s := range []string{"x 1", "y -2", "u 4096", "d -0", "é 1", ""} {
		f.Add(s)
	}
	f.Fuzz(func(t *testing.T, s string) {
		l, e := Parse(s)
		switch e {
		case api.OK:
			if Check(l) != api.OK || Text(l) != s {
				t.Errorf("%q: %v", s, l)
			}
		case api.ErrForm:
			if l != (api.Line{}) {
				t.Errorf("%q: %v with an error", s, l)
			}
		default:
			t.Errorf("%q: %d", s, e)
		}
	})
}
