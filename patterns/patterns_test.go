package patterns

import (
	"math"
	"math/rand"
	"slices"
	"testing"

	"crimp/api"
	"crimp/sheets"
)

// two is the sheet of the examples.
var two = sheets.Sheet{W: 2, H: 1}

// on returns a pattern on the sheet of the examples.
func on(l ...Crease) Pattern { return Pattern{Sheet: two, Creases: l} }

// someSheets returns small sheets, narrow ones, and large ones.
func someSheets() []sheets.Sheet {
	return []sheets.Sheet{{W: 1, H: 1}, {W: 2, H: 1}, {W: 1, H: 2}, {W: 3, H: 2}, {W: 2, H: 4}, {W: 5, H: 1}, {W: 4, H: 3}, {W: 256, H: 1}, {W: 1, H: 256}, {W: 16, H: 16}}
}

// badSheets are sheets that are not valid.
var badSheets = []sheets.Sheet{
	{}, {W: 0, H: 1}, {W: 1, H: 0}, {W: -1, H: -1}, {W: -2, H: 1}, {W: 257, H: 1}, {W: 17, H: 16}, {W: 1, H: 257},
	{W: math.MaxInt, H: 1}, {W: 1, H: math.MinInt}, {W: 1 << 32, H: 1 << 32}, {W: math.MinInt, H: 2},
}

// badKinds are no kinds of creases.
var badKinds = []api.Kind{0, 4, 5, 128, 254, 255}

// units returns the units of a valid sheet.
func units(s sheets.Sheet) []sheets.Unit {
	l, _ := sheets.Units(s)
	return l
}

// other returns the greater id of a unit.
func other(s sheets.Sheet, u sheets.Unit) int {
	id, _ := sheets.Neighbour(s, u.Cell, u.Edge)
	return id
}

// somePatterns returns patterns of a sheet: without creases, with all of one kind, with one crease, and with many ones.
func somePatterns(s sheets.Sheet) []Pattern {
	l := units(s)
	out := []Pattern{{Sheet: s}, {Sheet: s, Creases: []Crease{}}}
	for k := api.Mountain; k <= api.Any; k++ {
		p := Pattern{Sheet: s}
		for _, u := range l {
			p.Creases = append(p.Creases, Crease{u.Cell, u.Edge, k})
		}
		first, last := p.Creases[0], p.Creases[len(l)-1]
		out = append(out, p, Pattern{s, []Crease{first}}, Pattern{s, []Crease{last}})
	}
	r := rand.New(rand.NewSource(int64(len(l))))
	for range 4 {
		p := Pattern{Sheet: s}
		for _, u := range l {
			if k := api.Kind(r.Intn(4)); k != 0 {
				p.Creases = append(p.Creases, Crease{u.Cell, u.Edge, k})
			}
		}
		out = append(out, p)
	}
	return out
}

// A badPattern is a pattern that is not valid, and its error.
type badPattern struct {
	p Pattern
	e api.Errno
}

// badPatterns returns patterns that are not valid.
func badPatterns() []badPattern {
	good, kind, unit := Crease{0, 1, api.Valley}, Crease{1, 0, 0}, Crease{7, 0, api.Valley}
	out := []badPattern{
		{on(kind), api.ErrArg}, {on(unit), api.ErrNone},
		// That of a kind comes before those of units, wherever they stand, and those before that of the order.
		{on(unit, kind), api.ErrArg}, {on(kind, unit), api.ErrArg}, {on(good, unit, unit, kind), api.ErrArg}, {on(good, good, kind), api.ErrArg},
		{on(Crease{99, 99, 99}), api.ErrArg}, {on(good, Crease{99, 99, 99}), api.ErrArg},
		{on(good, good, unit), api.ErrNone}, {on(unit, good, good), api.ErrNone}, {on(unit, unit), api.ErrNone}, {on(Crease{1, 0, 1}, good, unit), api.ErrNone},
		{on(good, good), api.ErrState}, {on(good, Crease{0, 1, api.Any}), api.ErrState}, {on(Crease{0, 2, 3}, Crease{0, 1, 3}), api.ErrState},
		{on(Crease{1, 0, 1}, Crease{0, 1, 1}), api.ErrState}, {on(Crease{1, 0, 1}, Crease{0, 2, 1}), api.ErrState}, {on(good, Crease{4, 1, 1}, Crease{1, 0, 1}), api.ErrState},
		{on(good, Crease{0, 2, 1}, Crease{1, 0, 1}, Crease{1, 0, 2}), api.ErrState},
		// Edges at the rim of the sheet, and names that are those of no unit.
		{on(Crease{0, 0, 1}), api.ErrNone}, {on(Crease{5, 0, 1}), api.ErrNone}, {on(Crease{0, 3, 1}), api.ErrNone}, {on(Crease{0, 255, 1}), api.ErrNone},
		{on(Crease{1, 1, 1}), api.ErrNone}, {on(Crease{3, 2, 1}), api.ErrNone}, {on(Crease{-1, 1, 1}), api.ErrNone}, {on(Crease{8, 1, 1}), api.ErrNone},
		{on(Crease{math.MaxInt, 1, 1}), api.ErrNone}, {on(Crease{math.MinInt, 2, 1}), api.ErrNone}, {on(Crease{1 << 32, 1, 1}), api.ErrNone},
	}
	for _, s := range badSheets {
		out = append(out, badPattern{Pattern{Sheet: s}, api.ErrArg}, badPattern{Pattern{s, []Crease{good}}, api.ErrArg},
			badPattern{Pattern{s, []Crease{unit}}, api.ErrArg}, badPattern{Pattern{s, []Crease{good, good}}, api.ErrArg})
	}
	for _, k := range badKinds {
		out = append(out, badPattern{on(good, Crease{0, 2, 1}, Crease{4, 1, k}), api.ErrArg})
	}
	return out
}

// guarded returns a copy of a pattern behind whose creases there is more memory, and a function that checks that all of it is as it was.
func guarded(t *testing.T, p Pattern) (Pattern, func(name string)) {
	t.Helper()
	was := append(slices.Clone(p.Creases), Crease{77, 1, 1}, Crease{78, 2, 2})
	is := slices.Clone(was)
	return Pattern{p.Sheet, is[:len(p.Creases)]}, func(name string) {
		t.Helper()
		if !slices.Equal(is, was) {
			t.Errorf("%s changed its argument %v to %v", name, was, is)
		}
	}
}

// checkPattern checks that a function returns, for a pattern that it does not change, a valid one whose creases are memory of their own, and returns it.
func checkPattern(t *testing.T, name string, p Pattern, call func(Pattern) (Pattern, api.Errno)) Pattern {
	t.Helper()
	arg, check := guarded(t, p)
	got, e := call(arg)
	if e != api.OK || Check(got) != api.OK || got.Sheet != p.Sheet || cap(got.Creases) != len(got.Creases) {
		t.Errorf("%s of %v: %v, %d, capacity %d", name, p, got, e, cap(got.Creases))
	}
	was := Pattern{got.Sheet, slices.Clone(got.Creases)}
	clear(got.Creases)
	check(name)
	if again, e := call(arg); e != api.OK || !slices.Equal(again.Creases, was.Creases) {
		t.Errorf("%s of %v: %v, %d, and before %v", name, p, again, e, was)
	}
	return was
}

// isZero reports whether a pattern is what is returned together with an error.
func isZero(p Pattern) bool { return p.Sheet == sheets.Sheet{} && len(p.Creases) == 0 }

func TestCheck(t *testing.T) { // P6.1
	for _, s := range someSheets() {
		for _, p := range somePatterns(s) {
			arg, check := guarded(t, p)
			if e := Check(arg); e != api.OK {
				t.Errorf("%v: %d", p, e)
			}
			check("Check")
		}
	}
	for _, x := range badPatterns() {
		arg, check := guarded(t, x.p)
		if e := Check(arg); e != x.e {
			t.Errorf("%v: %d, expected %d", x.p, e, x.e)
		}
		check("Check")
	}
	if e := Check(on(Crease{7, 0, api.Valley})); e != api.ErrNone {
		t.Errorf("7 0: %d", e)
	}
	if e := Check(on(Crease{0, 2, api.Any}, Crease{0, 1, api.Any})); e != api.ErrState {
		t.Errorf("0 2, 0 1: %d", e)
	}
}

func TestCheckUnits(t *testing.T) { // P6.1: creases lie on units, which have one name each
	for _, s := range someSheets() {
		named := map[sheets.Unit]bool{}
		for _, u := range units(s) {
			named[u] = true
		}
		for id := -2; id < 4*s.W*s.H+2; id++ {
			for edge := range uint8(5) {
				want := api.ErrNone
				if named[sheets.Unit{Cell: id, Edge: edge}] {
					want = api.OK
				}
				if e := Check(Pattern{s, []Crease{{id, edge, api.Any}}}); e != want {
					t.Errorf("%v, %d %d: %d, expected %d", s, id, edge, e, want)
				}
			}
		}
	}
}

func TestEmpty(t *testing.T) { // P6.1
	for _, s := range someSheets() {
		p, e := Empty(s)
		if e != api.OK || p.Sheet != s || len(p.Creases) != 0 || cap(p.Creases) != 0 || Check(p) != api.OK {
			t.Errorf("%v: %v, %d", s, p, e)
		}
	}
	for _, s := range badSheets {
		if p, e := Empty(s); e != api.ErrArg || !isZero(p) {
			t.Errorf("%v: %v, %d", s, p, e)
		}
	}
}

func TestBadPatterns(t *testing.T) { // P6.1: the error of Check comes first, also before those of other arguments
	for _, x := range badPatterns() {
		arg, check := guarded(t, x.p)
		for _, id := range []int{0, 1, 7, 8, -1, math.MaxInt, math.MinInt} {
			for _, edge := range []uint8{0, 1, 2, 3, 255} {
				if k, e := Kind(arg, id, edge); e != x.e || k != 0 {
					t.Errorf("Kind of %v, %d, %d: %d, %d", x.p, id, edge, k, e)
				}
				for _, k := range []api.Kind{0, 1, 2, 3, 4, 255} {
					if p, e := Set(arg, id, edge, k); e != x.e || !isZero(p) {
						t.Errorf("Set of %v, %d, %d, %d: %v, %d", x.p, id, edge, k, p, e)
					}
				}
			}
		}
		if p, e := Opposite(arg); e != x.e || !isZero(p) {
			t.Errorf("Opposite of %v: %v, %d", x.p, p, e)
		}
		if p, e := Turned(arg); e != x.e || !isZero(p) {
			t.Errorf("Turned of %v: %v, %d", x.p, p, e)
		}
		check("a function")
	}
}

// variants returns patterns that differ from one with creases 0 1 Mountain and 1 0 Any in one field each.
func variants() []Pattern {
	return []Pattern{
		{sheets.Sheet{W: 3, H: 1}, []Crease{{0, 1, 1}, {1, 0, 3}}}, {sheets.Sheet{W: 2, H: 2}, []Crease{{0, 1, 1}, {1, 0, 3}}}, {sheets.Sheet{W: 1, H: 2}, []Crease{{0, 1, 1}, {1, 0, 3}}},
		on(), on(Crease{0, 1, 1}), on(Crease{1, 0, 3}), on(Crease{0, 1, 1}, Crease{1, 0, 3}, Crease{4, 1, 1}), on(Crease{1, 0, 3}, Crease{0, 1, 1}),
		on(Crease{0, 2, 1}, Crease{1, 0, 3}), on(Crease{0, 1, 1}, Crease{5, 0, 3}), on(Crease{1, 1, 1}, Crease{1, 0, 3}), on(Crease{0, 1, 1}, Crease{1, 2, 3}),
	}
}

func TestSame(t *testing.T) { // P6.3
	p := on(Crease{0, 1, 1}, Crease{1, 0, 3})
	if !Same(p, on(Crease{0, 1, 1}, Crease{1, 0, 3})) || !Same(on(), on([]Crease{}...)) || !Same(Pattern{}, Pattern{Creases: []Crease{}}) {
		t.Error("equal patterns are not the same")
	}
	kinds := []Pattern{on(Crease{0, 1, 2}, Crease{1, 0, 3}), on(Crease{0, 1, 1}, Crease{1, 0, 1}), on(Crease{0, 1, 3}, Crease{1, 0, 3})}
	for _, q := range append(variants(), kinds...) {
		if Same(p, q) || Same(q, p) {
			t.Errorf("%v is the same as %v", p, q)
		}
		if !Same(q, q) {
			t.Errorf("%v is not the same as itself", q)
		}
	}
	for _, x := range badPatterns() { // all patterns are accepted
		if !Same(x.p, Pattern{x.p.Sheet, slices.Clone(x.p.Creases)}) || Same(x.p, p) || Same(p, x.p) {
			t.Errorf("%v", x.p)
		}
	}
}

func TestFits(t *testing.T) { // P6.3
	mountain, valley, either := on(Crease{1, 0, 1}), on(Crease{1, 0, 2}), on(Crease{1, 0, 3})
	for i, x := range []struct {
		p, of Pattern
		want  bool
	}{
		{valley, either, true}, {either, valley, false}, {mountain, either, true}, {either, mountain, false}, {either, either, true}, {valley, valley, true},
		{mountain, valley, false}, {valley, mountain, false}, {on(), either, false}, {either, on(), false}, {on(), on([]Crease{}...), true}, {Pattern{}, Pattern{}, true},
		{on(Crease{0, 1, 1}, Crease{1, 0, 2}), on(Crease{0, 1, 3}, Crease{1, 0, 2}), true}, {on(Crease{0, 1, 1}, Crease{1, 0, 2}), on(Crease{0, 1, 3}, Crease{1, 0, 1}), false},
		{on(Crease{0, 1, 1}, Crease{1, 0, 2}), on(Crease{0, 1, 3}, Crease{1, 0, 3}), true}, {on(Crease{0, 1, 3}, Crease{1, 0, 2}), on(Crease{0, 1, 1}, Crease{1, 0, 3}), false},
		{on(Crease{0, 1, 1}), on(Crease{0, 2, 3}), false}, {on(Crease{0, 1, 1}), on(Crease{1, 1, 3}), false},
		// All patterns are accepted, and nothing but the creases, one by one, is looked at.
		{on(Crease{99, 99, 0}), on(Crease{99, 99, 3}), true}, {on(Crease{99, 99, 7}), on(Crease{99, 99, 7}), true}, {on(Crease{99, 99, 7}), on(Crease{99, 99, 0}), false},
		{on(Crease{1, 0, 1}, Crease{0, 1, 1}), on(Crease{1, 0, 3}, Crease{0, 1, 3}), true}, {on(Crease{1, 0, 1}, Crease{0, 1, 1}), on(Crease{0, 1, 3}, Crease{1, 0, 3}), false},
		{on(Crease{1, 0, 1}, Crease{1, 0, 2}), on(Crease{1, 0, 3}, Crease{1, 0, 3}), true}, {on(Crease{1, 0, 1}, Crease{1, 0, 1}), on(Crease{1, 0, 3}), false},
		{Pattern{Creases: []Crease{{1, 0, 1}}}, Pattern{Creases: []Crease{{1, 0, 3}}}, true}, {Pattern{Creases: []Crease{{1, 0, 1}}}, either, false}, {mountain, Pattern{Creases: []Crease{{1, 0, 3}}}, false},
	} {
		p, checkP := guarded(t, x.p)
		of, checkOf := guarded(t, x.of)
		if got := Fits(p, of); got != x.want {
			t.Errorf("%d: %v of %v: %v", i, x.p, x.of, got)
		}
		checkP("Fits")
		checkOf("Fits")
	}
	for _, q := range variants() {
		all := on(Crease{0, 1, 3}, Crease{1, 0, 3})
		if Fits(q, all) || Fits(all, q) {
			t.Errorf("%v", q)
		}
	}
}

func TestCount(t *testing.T) { // P6.3
	p := on(Crease{0, 1, 1}, Crease{0, 2, 2}, Crease{1, 0, 3}, Crease{1, 2, 2}, Crease{2, 1, 3}, Crease{4, 1, 3})
	bad := Pattern{Creases: []Crease{{9, 9, 9}, {-1, 9, 9}, {0, 0, 0}, {9, 9, 1}}}
	for _, x := range []struct {
		p    Pattern
		k    api.Kind
		want int
	}{
		{p, api.Mountain, 1}, {p, api.Valley, 2}, {p, api.Any, 3}, {p, 0, 0}, {p, 4, 0}, {p, 255, 0}, {on(), api.Mountain, 0}, {on(), 0, 0}, {Pattern{}, api.Any, 0},
		{bad, 9, 2}, {bad, 0, 1}, {bad, api.Mountain, 1}, {bad, api.Valley, 0}, // all patterns are accepted
	} {
		if got := Count(x.p, x.k); got != x.want {
			t.Errorf("%v, %d: %d", x.p, x.k, got)
		}
	}
	for _, s := range someSheets() {
		full := somePatterns(s)[2]
		if got := Count(full, api.Mountain); got != 6*s.W*s.H-s.W-s.H {
			t.Errorf("%v: %d", s, got)
		}
	}
}
