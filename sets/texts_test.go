package sets

import (
	"slices"
	"strings"
	"testing"

	"crimp/api"
)

func TestTextExamples(t *testing.T) { // P4.6
	for i, x := range []struct {
		l    []api.Cell
		want string
	}{
		{nil, ""},
		{[]api.Cell{}, ""},
		{setA(), "SENW\n"},
		{setB(), ".E..S..W\n"},
		{[]api.Cell{cell(0, 0, 'S'), cell(0, 1, 'N')}, "..N.\nS...\n"},
		{square(-7, -9, "W"), "...W\n"},
		{slices.Concat(square(2, -1, "EN"), square(-1, 2, "S")), "S...............\n................\n................\n.............EN.\n"}, // empty squares and rows between them
		{slices.Concat(square(-2, -3, "SW"), square(0, -3, "SENW"), square(-1, -2, "N")), "......N.....\nS..W....SENW\n"},
		{slices.Concat(square(0, 0, "N"), square(-1, 1, "E"), square(1, 2, "W")), "...........W\n.E..........\n......N.....\n"}, // the least and greatest X stand in the middle and the last row
	} {
		if s, e := Text(x.l); e != api.OK || s != x.want {
			t.Errorf("%d: %q, %d, expected %q", i, s, e, x.want)
		}
	}
}

// naiveText looks up each cell between the limits of a set that is not empty.
func naiveText(l []api.Cell) string {
	has := map[api.Cell]bool{}
	left, right := l[0].X, l[0].X
	for _, c := range l {
		has[c] = true
		left, right = min(left, c.X), max(right, c.X)
	}
	var s strings.Builder
	for y := l[len(l)-1].Y; y >= l[0].Y; y-- {
		for x := left; x <= right; x++ {
			for _, c := range square(x, y, "SENW") {
				if has[c] {
					s.WriteByte("SENW"[c.Q])
				} else {
					s.WriteByte('.')
				}
			}
		}
		s.WriteByte('\n')
	}
	return s.String()
}

func TestText(t *testing.T) { // P4.6
	drawn := 0
	for _, s := range someSets() {
		if len(s) == 0 || s[len(s)-1].Y-s[0].Y > 100 {
			continue // nothing to draw, or too much: see TestTextLimit
		}
		l, check := guarded(t, s)
		got, e := Text(l)
		check("Text")
		if e != api.OK || got != naiveText(s) {
			t.Errorf("%v: %q, %d", s, got, e)
		}
		drawn++
	}
	if drawn < 40 {
		t.Errorf("only %d sets were drawn", drawn)
	}
}

func TestTextLimit(t *testing.T) { // P4.6
	for i, x := range []struct {
		x, y, width, height int
		size                int
	}{
		{0, 0, 64, 255, 65535},
		{-3, 100, 4, 3855, 65535},
		{0, 0, 8, 1985, 65505},
		{0, 0, 8, 1986, 0}, // 65538
		{-4096, 7, 8191, 2, 65530},
		{-4096, 7, 8192, 2, 0}, // 65536 cells, but line breaks also count
		{-4096, -4096, 8193, 1, 32773},
		{4096, -4096, 1, 8193, 40965},
		{-1, -4096, 2, 8193, 0},
		{-4096, -4096, 8193, 8193, 0},
	} {
		l := []api.Cell{cell(x.x, x.y, 'E'), cell(x.x+x.width-1, x.y+x.height-1, 'W')}
		s, e := Text(l)
		if x.size == 0 {
			if e != api.ErrLimit || s != "" {
				t.Errorf("%d: %d bytes, %d", i, len(s), e)
			}
		} else if e != api.OK || len(s) != x.size || s != naiveText(l) {
			t.Errorf("%d: %d bytes, %d, expected %d", i, len(s), e, x.size)
		}
	}
	if s, e := Text(atLimits()); e != api.ErrLimit || s != "" {
		t.Errorf("%d bytes, %d", len(s), e)
	}
}

func TestTextErrors(t *testing.T) { // P4.6
	for i, x := range badLists {
		if s, e := Text(x.l); e != x.e || s != "" {
			t.Errorf("%d: %q, %d", i, s, e)
		}
	}
	if s, e := Text([]api.Cell{{X: 4096, Y: 4096}, {X: -4096, Y: -4096}}); e != api.ErrState || s != "" { // not ErrLimit
		t.Errorf("%q, %d", s, e)
	}
}
