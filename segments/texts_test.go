package segments

import (
	"fmt"
	"math"
	"strings"
	"testing"

	"crimp/api"
)

// places are From and To of segments that have texts: near 0, and at the limits. They ascend.
var places = []int{-4096, -4095, -257, -10, -1, 0, 1, 2, 9, 10, 255, 256, 4095, 4096}

func TestText(t *testing.T) { // P7.5
	if MaxPlace != 4096 {
		t.Errorf("MaxPlace is %d", MaxPlace)
	}
	kinds := map[api.Kind]string{api.Mountain: "m", api.Valley: "v", api.Any: "a"}
	letters := map[api.LineKind]string{api.V: "x", api.H: "y", api.U: "u", api.D: "d"}
	for kind, k := range kinds {
		for line, l := range letters {
			for _, c := range []int{-4096, -2, -1, 0, 1, 10, 4096} {
				for i, from := range places {
					for _, to := range places[i+1:] {
						x := Segment{kind, api.Line{Kind: line, C: c}, from, to}
						s := fmt.Sprintf("%s %s %d %d %d", k, l, c, from, to)
						if got := Text(x); got != s {
							t.Errorf("%v: %q, expected %q", x, got, s)
						}
						if got, e := Parse(s); e != api.OK || got != x {
							t.Errorf("%q: %v, %d", s, got, e)
						}
					}
				}
			}
		}
	}
}

func TestTextExamples(t *testing.T) { // P7.5
	for s, want := range map[string]Segment{
		"m x 1 0 4":          {api.Mountain, api.Line{Kind: api.V, C: 1}, 0, 4},
		"v u 2 0 4":          {api.Valley, api.Line{Kind: api.U, C: 2}, 0, 4},
		"a d -4096 -1 0":     {api.Any, api.Line{Kind: api.D, C: -4096}, -1, 0},
		"m y 7 -4096 4096":   {api.Mountain, api.Line{Kind: api.H, C: 7}, -4096, 4096},
		"m x 4096 4095 4096": {api.Mountain, api.Line{Kind: api.V, C: 4096}, 4095, 4096},
	} {
		if x, e := Parse(s); e != api.OK || x != want || Text(want) != s {
			t.Errorf("%q: %v, %d, and %q", s, x, e, Text(want))
		}
	}
}

func TestNoText(t *testing.T) { // P7.5
	line := api.Line{Kind: api.V, C: 1}
	far := []Segment{
		{api.Any, line, -4097, 0}, {api.Any, line, 0, 4097}, {api.Any, line, -4097, 4097}, {api.Any, line, -4098, -4097}, {api.Any, line, 4097, 4098}, {api.Any, line, 4096, 4097}, {api.Any, line, -4097, -4096},
		{api.Any, line, math.MinInt, math.MaxInt}, {api.Any, line, math.MinInt, 0}, {api.Any, line, 0, math.MaxInt}, {api.Any, line, 1 << 32, 1<<32 + 2}, {api.Any, line, -1 << 32, 2},
	}
	for _, x := range append(far, badSegments...) {
		if got := Text(x); got != "" {
			t.Errorf("%v: %q", x, got)
		}
	}
}

func TestParseErrors(t *testing.T) { // P7.5
	bad := []string{
		"", " ", "    ", "m", "m x", "m x 1", "m x 1 0", "m x 1 0 ", "m x 1  4", "m x  0 4", "m  1 0 4", " x 1 0 4", "x 1 0 4", "mx104", "m,x,1,0,4",
		" m x 1 0 4", "m x 1 0 4 ", "m  x 1 0 4", "m x  1 0 4", "m x 1  0 4", "m x 1 0  4", "m x 1 0 4 4", "m x 1 0 4\n", "m x 1 0 4\x00", "m\tx 1 0 4", "m x 1 0\t4",
		"q x 1 0 4", "M x 1 0 4", "mv x 1 0 4", "va x 1 0 4", "mva x 1 0 4", "ma x 1 0 4", "mm x 1 0 4", "1 x 1 0 4", "µ x 1 0 4", "\xff x 1 0 4",
		"m z 1 0 4", "m X 1 0 4", "m xx 1 0 4", "m 1 1 0 4", "m x x 0 4", "m x 4097 0 4", "m x -4097 0 4", "m x 01 0 4", "m x -0 0 4", "m x +1 0 4", "m x 18446744073709551617 0 4",
		"m x 1 00 4", "m x 1 0 04", "m x 1 -0 4", "m x 1 -4 -0", "m x 1 +0 4", "m x 1 0 +4", "m x 1 --2 4", "m x 1 - 4", "m x 1 0 4-", "m x 1 0 -", "m x 1 -02 4",
		"m x 1 a 4", "m x 1 0 a", "m x 1 0x0 4", "m x 1 0 1_6", "m x 1 0 4.0", "m x 1 0 4e0", "m x 1 0 ٤", "m x 1 0 ４", "m x 1 0\u00a04",
		"m x 1 4 0", "m x 1 0 0", "m x 1 4 4", "m x 1 -1 -1", "m x 1 -1 -2",
		"m x 1 0 4097", "m x 1 -4097 0", "m x 1 4096 4097", "m x 1 -4097 -4096", "m x 1 0 40960", "m x 1 0 4294967298", "m x 1 0 18446744073709551620", "m x 1 -99999999999999999999 99999999999999999999",
		strings.Repeat("m ", 1000), "m x 1 0 4" + strings.Repeat(" ", 1000), "m x 1 0 " + strings.Repeat("4", 1000), strings.Repeat("m", 1000) + " x 1 0 4", "m x 1 0 " + strings.Repeat("0", 1000) + "4",
	}
	for _, s := range bad {
		if x, e := Parse(s); e != api.ErrForm || x != (Segment{}) {
			t.Errorf("%q: %v, %d", s, x, e)
		}
	}
}

// FuzzParse checks that whatever can be parsed is the text of what it is parsed to.
func FuzzParse(f *testing.F) {
	for _, s := range []string{"m x 1 0 4", "v u -4096 -4096 4096", "a d 0 -1 1", "m y 1 4 0", "q x 1 0 4", "m x 1 -0 4", "é x 0 0 1", ""} {
		f.Add(s)
	}
	f.Fuzz(func(t *testing.T, s string) {
		x, e := Parse(s)
		switch e {
		case api.OK:
			if s == "" || Text(x) != s {
				t.Errorf("%q: %v", s, x)
			}
		case api.ErrForm:
			if x != (Segment{}) {
				t.Errorf("%q: %v with an error", s, x)
			}
		default:
			t.Errorf("%q: %d", s, e)
		}
	})
}
