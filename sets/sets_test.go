package sets

import (
	"math"
	"math/rand"
	"slices"
	"testing"

	"crimp/api"
	"crimp/cells"
)

// cell returns the cell of a quarter, which is S, E, N or W.
func cell(x, y int, quarter byte) api.Cell {
	return api.Cell{X: x, Y: y, Q: map[byte]uint8{'S': 0, 'E': 1, 'N': 2, 'W': 3}[quarter]}
}

// square returns the cells of a square with some quarters.
func square(x, y int, quarters string) []api.Cell {
	var out []api.Cell
	for i := range quarters {
		out = append(out, cell(x, y, quarters[i]))
	}
	return out
}

// block returns the cells of width by height squares, ascending; the lowest and leftmost one is (x, y).
func block(x, y, width, height int) []api.Cell {
	var out []api.Cell
	for dy := range height {
		for dx := range width {
			out = append(out, square(x+dx, y+dy, "SENW")...)
		}
	}
	return out
}

// full is a set with as many cells as there may be.
func full() []api.Cell { return block(-8, -8, 16, 16) }

// setA and setB are the sets of the document's examples.
func setA() []api.Cell { return square(0, 0, "SENW") }
func setB() []api.Cell { return []api.Cell{cell(0, 0, 'E'), cell(1, 0, 'S'), cell(1, 0, 'W')} }

// atLimits are cells at the corners of what is valid, ascending.
func atLimits() []api.Cell {
	return slices.Concat(square(-4096, -4096, "SENW"), square(4096, -4096, "SENW"), square(-4096, 4096, "SENW"), square(4096, 4096, "SENW"))
}

// someOf returns the cells of a set that are chosen with a chance.
func someOf(r *rand.Rand, l []api.Cell, chance float64) []api.Cell {
	var out []api.Cell
	for _, c := range l {
		if r.Float64() < chance {
			out = append(out, c)
		}
	}
	return out
}

// someSets returns sets of all sorts, the same in every run.
func someSets() [][]api.Cell {
	out := [][]api.Cell{nil, {}, setA(), setB(), atLimits(), full(), block(0, 0, 2, 2), block(-3, 5, 1, 4), block(4090, -3, 7, 1), square(0, 0, "SN"), square(0, 0, "EW"), square(-1, 2, "SEW")}
	for q := range uint8(4) {
		out = append(out, []api.Cell{{Q: q}}, []api.Cell{{X: -7, Y: 3, Q: q}}, []api.Cell{{X: 4096, Y: -4096, Q: q}})
	}
	out = append(out, slices.Concat(block(0, 0, 3, 1), square(0, 1, "SENW"), square(2, 1, "SENW"), block(0, 2, 3, 1))) // a frame
	r := rand.New(rand.NewSource(4))
	for _, chance := range []float64{0.1, 0.3, 0.5, 0.7, 0.8, 0.9, 0.97} {
		for _, from := range [][]api.Cell{block(0, 0, 2, 2), block(-1, -1, 3, 3), block(-2, 0, 5, 2), block(4093, 4093, 4, 4), block(-4096, -4096, 4, 3), atLimits()} {
			out = append(out, someOf(r, from, chance))
		}
	}
	return out
}

// badLists are lists that are no sets, with their errors.
var badLists = []struct {
	l []api.Cell
	e api.Errno
}{
	{make([]api.Cell, 1025), api.ErrLimit},
	{append(full(), cell(8, 8, 'S')), api.ErrLimit},
	{append(full(), api.Cell{Q: 4}), api.ErrLimit}, // not ErrArg
	{append(full(), full()...), api.ErrLimit},
	{[]api.Cell{{Q: 4}}, api.ErrArg},
	{[]api.Cell{{}, {Q: 255}}, api.ErrArg},
	{[]api.Cell{{X: 4097}}, api.ErrArg},
	{[]api.Cell{{X: -4097}}, api.ErrArg},
	{[]api.Cell{{Y: 4097}}, api.ErrArg},
	{[]api.Cell{{Y: -4097}}, api.ErrArg},
	{[]api.Cell{{X: math.MinInt, Y: math.MinInt}, {}, {X: math.MaxInt, Y: math.MaxInt}}, api.ErrArg},
	{[]api.Cell{{Q: 4}, {}}, api.ErrArg},
	{[]api.Cell{{Q: 1}, {}, {Q: 4}}, api.ErrArg}, // not ErrState, though that comes first
	{[]api.Cell{{}, {}, {Y: 5000}}, api.ErrArg},
	{append(full()[1:], api.Cell{X: 8, Y: 8, Q: 4}), api.ErrArg},
	{[]api.Cell{{}, {}}, api.ErrState},
	{[]api.Cell{{Q: 1}, {}}, api.ErrState},
	{[]api.Cell{{X: 1}, {}}, api.ErrState},
	{[]api.Cell{{Y: 1}, {X: 1}}, api.ErrState},
	{[]api.Cell{{X: 4096, Y: 4096}, {X: -4096, Y: 4096}}, api.ErrState},
	{[]api.Cell{{}, {Q: 1}, {Q: 3}, {Q: 2}}, api.ErrState},
	{make([]api.Cell, 1024), api.ErrState},
	{append(full()[1:], full()[0]), api.ErrState},
}

// guarded returns a copy of a list with other cells behind its end, and a function that checks that nobody has changed any of them.
func guarded(t *testing.T, l []api.Cell) ([]api.Cell, func(name string)) {
	t.Helper()
	was := append(slices.Clone(l), cell(77, 77, 'N'), cell(78, 78, 'W'))
	is := slices.Clone(was)
	return is[:len(l)], func(name string) {
		t.Helper()
		if !slices.Equal(is, was) {
			t.Errorf("%s changed its argument %v to %v", name, was, is)
		}
	}
}

// checkSlice checks that a result is as long as its memory, writes into it, and returns what it was.
func checkSlice[E comparable](t *testing.T, name string, got []E) []E {
	t.Helper()
	if cap(got) != len(got) {
		t.Errorf("%s: length %d, capacity %d", name, len(got), cap(got))
	}
	was := slices.Clone(got)
	clear(got)
	return was
}

func TestCheck(t *testing.T) { // P4.1
	if MaxCells != 1024 || MaxText != 65536 {
		t.Errorf("MaxCells is %d, MaxText %d", MaxCells, MaxText)
	}
	for _, l := range someSets() {
		if e := Check(l); e != api.OK {
			t.Errorf("%v: %d", l, e)
		}
	}
	for i, x := range badLists {
		if e := Check(x.l); e != x.e {
			t.Errorf("%d: %d, expected %d", i, e, x.e)
		}
	}
	if e := Check([]api.Cell{cell(0, 0, 'E'), cell(0, 0, 'S')}); e != api.ErrState {
		t.Errorf("E, S: %d", e)
	}
}

// naiveSet returns the cells that are in one of some lists, each once and ascending.
func naiveSet(lists ...[]api.Cell) []api.Cell {
	var out []api.Cell
	for _, l := range lists {
		for _, c := range l {
			i := 0
			for i < len(out) && cells.Compare(out[i], c) < 0 {
				i++
			}
			if i == len(out) || out[i] != c {
				out = slices.Insert(out, i, c)
			}
		}
	}
	return out
}

func TestOf(t *testing.T) { // P4.1
	r := rand.New(rand.NewSource(5))
	for _, s := range someSets() {
		for times := 1; times <= 3; times++ {
			l, check := guarded(t, slices.Repeat(s, times))
			r.Shuffle(len(l), func(i, j int) { l[i], l[j] = l[j], l[i] })
			l, check = guarded(t, l)
			got, e := Of(l)
			check("Of")
			if got := checkSlice(t, "Of", got); e != api.OK || !slices.Equal(got, s) {
				t.Errorf("%v: %v, %d", l, got, e)
			}
			check("what was written into the result of Of")
		}
	}
	got, e := Of([]api.Cell{{Y: 1}, {X: 1}, {Y: 1}, {Q: 3}})
	if e != api.OK || !slices.Equal(got, []api.Cell{{Q: 3}, {X: 1}, {Y: 1}}) {
		t.Errorf("%v, %d", got, e)
	}
}

func TestOfErrors(t *testing.T) { // P4.1
	more := append(full(), cell(100, -100, 'S'))
	for i, x := range []struct {
		l    []api.Cell
		size int
		e    api.Errno
	}{
		{nil, 0, api.OK},
		{[]api.Cell{}, 0, api.OK},
		{full(), 1024, api.OK},
		{slices.Repeat(full(), 5), 1024, api.OK}, // each once
		{make([]api.Cell, 5000), 1, api.OK},
		{more, 0, api.ErrLimit},
		{slices.Repeat(more, 2), 0, api.ErrLimit},
		{block(0, 0, 40, 40), 0, api.ErrLimit},
		{append(more, api.Cell{Q: 4}), 0, api.ErrArg}, // not ErrLimit
		{append([]api.Cell{{X: 4097}}, more...), 0, api.ErrArg},
		{[]api.Cell{{Q: 9}}, 0, api.ErrArg},
		{[]api.Cell{{}, {Q: 1}, {Y: -4097}}, 0, api.ErrArg},
		{[]api.Cell{{X: math.MinInt}, {X: math.MaxInt}, {Y: math.MinInt}, {Y: math.MaxInt}}, 0, api.ErrArg},
	} {
		if got, e := Of(x.l); e != x.e || len(got) != x.size {
			t.Errorf("%d: %d cells, %d, expected %d, %d", i, len(got), e, x.size, x.e)
		}
	}
}

func TestHas(t *testing.T) { // P4.2
	mixed := []api.Cell{{Y: 3}, {Q: 200}, {X: math.MaxInt, Y: math.MinInt}, {}, {Y: -9, Q: 2}, {}, {Y: 3}} // neither valid nor ascending
	for _, l := range append(someSets(), mixed) {
		for _, c := range slices.Concat(block(-3, -3, 6, 6), atLimits(), mixed) {
			want := false
			for _, d := range l {
				want = want || c == d
			}
			if got := Has(l, c); got != want {
				t.Errorf("%v, %v: %t", l, c, got)
			}
		}
	}
	long := append(make([]api.Cell, 3000), cell(5, 5, 'E'))
	if !Has(long, cell(5, 5, 'E')) || Has(long, cell(5, 5, 'N')) {
		t.Error("a long list")
	}
}

func TestSame(t *testing.T) { // P4.2
	for i, x := range []struct {
		a, b []api.Cell
		want bool
	}{
		{nil, nil, true},
		{nil, []api.Cell{}, true},
		{nil, []api.Cell{{}}, false},
		{setA(), setA(), true},
		{setA(), setB(), false},
		{setA(), setA()[:3], false},
		{setA(), []api.Cell{cell(0, 0, 'S'), cell(0, 0, 'E'), cell(0, 0, 'W'), cell(0, 0, 'N')}, false}, // another order
		{[]api.Cell{{}, {}}, []api.Cell{{}, {}}, true},
		{[]api.Cell{{}, {}}, []api.Cell{{}}, false}, // not as sets
		{[]api.Cell{{Q: 9}, {X: math.MinInt}}, []api.Cell{{Q: 9}, {X: math.MinInt}}, true},
		{[]api.Cell{{X: 1}}, []api.Cell{{Y: 1}}, false},
		{[]api.Cell{{Q: 1}}, []api.Cell{{Q: 2}}, false},
		{make([]api.Cell, 3000), make([]api.Cell, 3000), true},
		{make([]api.Cell, 3000), make([]api.Cell, 3001), false},
	} {
		if got, back := Same(x.a, x.b), Same(x.b, x.a); got != x.want || back != x.want {
			t.Errorf("%d: %t, %t", i, got, back)
		}
	}
}
