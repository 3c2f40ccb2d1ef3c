package patterns

import (
	"testing"

	"crimp/api"
	"crimp/sheets"
)

// exchanged returns the kind as which a kind is seen from the back.
func exchanged(k api.Kind) api.Kind {
	switch k {
	case api.Mountain:
		return api.Valley
	case api.Valley:
		return api.Mountain
	}
	return k
}

func TestOpposite(t *testing.T) { // P6.4
	got, e := Opposite(on(Crease{0, 1, 1}, Crease{0, 2, 2}, Crease{1, 0, 3}))
	if e != api.OK || !Same(got, on(Crease{0, 1, 2}, Crease{0, 2, 1}, Crease{1, 0, 3})) {
		t.Errorf("%v, %d", got, e)
	}
	for _, s := range someSheets() {
		for _, p := range somePatterns(s) {
			want := Pattern{Sheet: s}
			for _, c := range p.Creases {
				want.Creases = append(want.Creases, Crease{c.Cell, c.Edge, exchanged(c.Kind)})
			}
			if got := checkPattern(t, "Opposite", p, Opposite); !Same(got, want) {
				t.Errorf("%v: %v", p, got)
			}
		}
	}
}

func TestTurnedExamples(t *testing.T) { // P6.4
	for i, x := range []struct {
		s       sheets.Sheet
		l, want []Crease
	}{
		{two, []Crease{{1, 0, 1}}, []Crease{{1, 0, 2}}},
		{two, []Crease{{0, 1, 2}, {0, 2, 3}}, []Crease{{4, 1, 3}, {4, 2, 1}}},
		{two, nil, nil},
		{sheets.Sheet{W: 1, H: 1}, []Crease{{0, 1, 1}, {1, 2, 2}}, []Crease{{0, 2, 2}, {2, 1, 1}}},
		{sheets.Sheet{W: 1, H: 2}, []Crease{{2, 0, 1}}, []Crease{{2, 0, 2}}},
		{sheets.Sheet{W: 3, H: 1}, []Crease{{1, 0, 3}, {5, 0, 2}}, []Crease{{1, 0, 1}, {5, 0, 3}}},
		{sheets.Sheet{W: 2, H: 2}, []Crease{{1, 0, 1}, {2, 0, 2}}, []Crease{{1, 0, 2}, {6, 0, 1}}},
	} {
		got, e := Turned(Pattern{x.s, x.l})
		if e != api.OK || !Same(got, Pattern{x.s, x.want}) {
			t.Errorf("%d: %v, %d", i, got, e)
		}
	}
}

// seenAt returns the id of the cell at which a cell is seen when the sheet is turned over.
func seenAt(s sheets.Sheet, id int) int {
	square, quarter := id/4, id%4
	switch quarter {
	case 1:
		quarter = 3
	case 3:
		quarter = 1
	}
	x, y := square%s.W, square/s.W
	return 4*(y*s.W+s.W-1-x) + quarter
}

func TestTurned(t *testing.T) { // P6.4: a crease is between the two cells at which those are seen between which it was
	for _, s := range someSheets() {
		between := map[[2]int]sheets.Unit{}
		for _, u := range units(s) {
			between[[2]int{u.Cell, other(s, u)}] = u
		}
		for _, p := range somePatterns(s) {
			kinds := map[sheets.Unit]api.Kind{}
			for _, c := range p.Creases {
				a, b := seenAt(s, c.Cell), seenAt(s, other(s, sheets.Unit{Cell: c.Cell, Edge: c.Edge}))
				u, ok := between[[2]int{min(a, b), max(a, b)}]
				if !ok {
					t.Fatalf("%v: nothing between %d and %d", s, a, b)
				}
				kinds[u] = exchanged(c.Kind)
			}
			if got := checkPattern(t, "Turned", p, Turned); !Same(got, fromUnits(s, kinds)) {
				t.Errorf("%v: %v", p, got)
			}
		}
	}
}
