package sets

import (
	"testing"

	"crimp/api"
)

// These tests are for P4.7: what follows from the other promises.

// smallSets returns some of the sets, none of which is so large that a union of three would be.
func smallSets() [][]api.Cell {
	var out [][]api.Cell
	for _, l := range someSets() {
		if len(l) <= 300 {
			out = append(out, l)
		}
	}
	return out
}

// merge merges two sets without an error.
func merge(t *testing.T, f func(a, b []api.Cell) ([]api.Cell, api.Errno), a, b []api.Cell) []api.Cell {
	t.Helper()
	out, e := f(a, b)
	if e != api.OK {
		t.Fatalf("%v, %v: %d", a, b, e)
	}
	return out
}

func TestUnionAndCommonCommute(t *testing.T) {
	all := smallSets()
	for _, a := range all {
		for _, b := range all {
			if !Same(merge(t, Union, a, b), merge(t, Union, b, a)) || !Same(merge(t, Common, a, b), merge(t, Common, b, a)) {
				t.Errorf("%v, %v", a, b)
			}
		}
	}
}

func TestUnionAndCommonAssociate(t *testing.T) {
	all := smallSets()
	for i, a := range all {
		for j, b := range all {
			for k := (i + j) % 7; k < len(all); k += 7 { // some of the triples, but all pairs
				c := all[k]
				one, other := merge(t, Union, merge(t, Union, a, b), c), merge(t, Union, a, merge(t, Union, b, c))
				if !Same(one, other) {
					t.Errorf("Union of %v, %v, %v", a, b, c)
				}
				one, other = merge(t, Common, merge(t, Common, a, b), c), merge(t, Common, a, merge(t, Common, b, c))
				if !Same(one, other) {
					t.Errorf("Common of %v, %v, %v", a, b, c)
				}
			}
		}
	}
}

func TestCommonAndMinusPartASet(t *testing.T) {
	for _, a := range someSets() {
		for _, b := range someSets() {
			with, without := merge(t, Common, a, b), merge(t, Minus, a, b)
			if len(with)+len(without) != len(a) || !Same(merge(t, Union, with, without), a) || len(merge(t, Common, with, without)) != 0 {
				t.Errorf("%v, %v: %v and %v", a, b, with, without)
			}
		}
	}
}

func TestMovesKeepShapes(t *testing.T) {
	moved := 0
	for _, l := range someSets() {
		connected, _ := Connected(l)
		outline, _ := Outline(l)
		for _, m := range someMoves() {
			to, e := Move(m, l)
			if e != api.OK {
				continue
			}
			moved++
			still, f := Connected(to)
			edges, g := Outline(to)
			if f != api.OK || g != api.OK || len(to) != len(l) || still != connected || len(edges) != len(outline) {
				t.Errorf("%v: %v, %t, %d edges, goes to %v, %t, %d edges", m, l, connected, len(outline), to, still, len(edges))
			}
		}
	}
	if moved < 1000 {
		t.Errorf("only %d sets were moved", moved)
	}
}

func TestOutlineIsOddOrEvenAsTheSetIs(t *testing.T) {
	for _, l := range someSets() {
		outline, e := Outline(l)
		if e != api.OK || len(outline)%2 != len(l)%2 || len(l) > 0 && len(outline) == 0 {
			t.Errorf("%v: %v, %d", l, outline, e)
		}
	}
}
