package sets

import (
	"slices"
	"testing"

	"crimp/api"
)

// merges are the functions that merge two sets.
var merges = []struct {
	name  string
	merge func(a, b []api.Cell) ([]api.Cell, api.Errno)
}{{"Union", Union}, {"Common", Common}, {"Minus", Minus}}

func TestMergeExamples(t *testing.T) { // P4.3
	one, two := block(0, 0, 1, 1), block(1, 0, 1, 1)
	for i, x := range []struct{ a, b, union, common, minus []api.Cell }{
		{setA(), setB(), slices.Concat(setA(), square(1, 0, "SW")), square(0, 0, "E"), square(0, 0, "SNW")},
		{setB(), setA(), slices.Concat(setA(), square(1, 0, "SW")), square(0, 0, "E"), square(1, 0, "SW")},
		{setA(), setA(), setA(), setA(), nil},
		{nil, nil, nil, nil, nil},
		{[]api.Cell{}, setB(), setB(), nil, nil},
		{setB(), nil, setB(), nil, setB()},
		{one, two, block(0, 0, 2, 1), nil, one},
		{two, one, block(0, 0, 2, 1), nil, two},
		{square(0, 0, "SN"), square(0, 0, "EW"), one, nil, square(0, 0, "SN")}, // one by one in turn
		{square(0, 1, "S"), square(5, 0, "S"), []api.Cell{cell(5, 0, 'S'), cell(0, 1, 'S')}, nil, square(0, 1, "S")},
	} {
		for j, want := range [][]api.Cell{x.union, x.common, x.minus} {
			if got, e := merges[j].merge(x.a, x.b); e != api.OK || !slices.Equal(got, want) {
				t.Errorf("%d: %s: %v, %d, expected %v", i, merges[j].name, got, e, want)
			}
		}
	}
}

// naiveMerge returns what a merge of layer 4 must return: cells that are looked up one by one.
func naiveMerge(name string, a, b []api.Cell) []api.Cell {
	if name == "Union" {
		return naiveSet(a, b)
	}
	var out []api.Cell
	for _, c := range a {
		if slices.Contains(b, c) == (name == "Common") {
			out = append(out, c)
		}
	}
	return out
}

func TestMerges(t *testing.T) { // P4.3
	for _, x := range someSets() {
		for _, y := range someSets() {
			for _, m := range merges {
				want := naiveMerge(m.name, x, y)
				if len(want) > 1024 {
					continue // see TestMergeErrors
				}
				a, checkA := guarded(t, x)
				b, checkB := guarded(t, y)
				got, e := m.merge(a, b)
				if got := checkSlice(t, m.name, got); e != api.OK || !slices.Equal(got, want) {
					t.Errorf("%s of %v and %v: %v, %d", m.name, x, y, got, e)
				}
				checkA(m.name)
				checkB(m.name)
			}
		}
	}
}

func TestMergeErrors(t *testing.T) { // P4.3
	for _, m := range merges {
		for i, x := range badLists {
			for j, y := range badLists { // the first set is checked first
				if got, e := m.merge(x.l, y.l); e != x.e || len(got) != 0 {
					t.Errorf("%s, %d, %d: %d cells, %d", m.name, i, j, len(got), e)
				}
			}
			for _, good := range [][]api.Cell{nil, setA(), full()} {
				if got, e := m.merge(x.l, good); e != x.e || len(got) != 0 {
					t.Errorf("%s, %d, %d good cells: %d cells, %d", m.name, i, len(good), len(got), e)
				}
				if got, e := m.merge(good, x.l); e != x.e || len(got) != 0 {
					t.Errorf("%s, %d good cells, %d: %d cells, %d", m.name, len(good), i, len(got), e)
				}
			}
		}
	}
}

func TestUnionLimit(t *testing.T) { // P4.3
	all := full()
	for i, x := range []struct {
		a, b []api.Cell
		size int
		e    api.Errno
	}{
		{all, nil, 1024, api.OK},
		{all, all, 1024, api.OK},
		{all, all[500:700], 1024, api.OK},
		{all[:1000], all[900:], 1024, api.OK},
		{all[:512], all[512:], 1024, api.OK},
		{all, []api.Cell{{X: 8, Y: 8}}, 0, api.ErrLimit},
		{all, []api.Cell{{X: -9, Y: -9}}, 0, api.ErrLimit},
		{all[1:], []api.Cell{{X: 9}}, 1024, api.OK},
		{all[1:], []api.Cell{{X: 9}, {X: 9, Q: 1}}, 0, api.ErrLimit},
		{all, block(8, 8, 16, 16), 0, api.ErrLimit},
		{all, block(0, 0, 16, 16), 0, api.ErrLimit},
	} {
		if got, e := Union(x.a, x.b); e != x.e || len(got) != x.size {
			t.Errorf("%d: %d cells, %d", i, len(got), e)
		}
		if got, e := Union(x.b, x.a); e != x.e || len(got) != x.size {
			t.Errorf("%d, exchanged: %d cells, %d", i, len(got), e)
		}
	}
	// The other ones have no such limit.
	if got, e := Common(all, block(0, 0, 16, 16)); e != api.OK || len(got) != 4*8*8 {
		t.Errorf("Common: %d cells, %d", len(got), e)
	}
	if got, e := Minus(all, block(8, 8, 16, 16)); e != api.OK || len(got) != 1024 {
		t.Errorf("Minus: %d cells, %d", len(got), e)
	}
}

func TestMergedEndsEarly(t *testing.T) {
	visited := 0
	for range merged(full(), setB()) {
		if visited++; visited == 3 {
			break
		}
	}
	if visited != 3 {
		t.Errorf("%d cells were visited", visited)
	}
}
