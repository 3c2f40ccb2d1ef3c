package patterns

import (
	"math/rand"
	"testing"

	"crimp/api"
	"crimp/sheets"
)

// These tests are for P6.5: what follows from the other promises.

// mustSet sets the edge of a unit.
func mustSet(t *testing.T, p Pattern, u sheets.Unit, k api.Kind) Pattern {
	t.Helper()
	out, e := Set(p, u.Cell, u.Edge, k)
	if e != api.OK {
		t.Fatalf("Set of %v, %v, %d: %d", p, u, k, e)
	}
	return out
}

func TestKindReturnsWhatSetHasSet(t *testing.T) {
	for _, s := range []sheets.Sheet{{W: 1, H: 1}, {W: 2, H: 1}, {W: 2, H: 3}} {
		for _, p := range somePatterns(s) {
			kinds := byUnit(p)
			for _, u := range units(s) {
				for k := range api.Kind(4) {
					q := mustSet(t, p, u, k)
					for _, v := range units(s) {
						want := kinds[v]
						if v == u {
							want = k
						}
						low, e := Kind(q, v.Cell, v.Edge)
						high, f := Kind(q, other(s, v), v.Edge)
						if e != api.OK || f != api.OK || low != want || high != want {
							t.Errorf("%v, %v set to %d: at %v are %d, %d and %d, %d", p, u, k, v, low, e, high, f)
						}
					}
				}
			}
		}
	}
}

func TestSettingTwice(t *testing.T) {
	for _, s := range []sheets.Sheet{{W: 1, H: 1}, {W: 2, H: 2}} {
		for _, p := range somePatterns(s) {
			for _, u := range units(s) {
				for k := range api.Kind(4) {
					for l := range api.Kind(4) {
						if twice := mustSet(t, mustSet(t, p, u, k), u, l); !Same(twice, mustSet(t, p, u, l)) {
							t.Errorf("%v, %v set to %d and %d: %v", p, u, k, l, twice)
						}
					}
				}
			}
		}
	}
}

func TestSettingInAnyOrder(t *testing.T) {
	r := rand.New(rand.NewSource(6))
	for _, s := range []sheets.Sheet{{W: 1, H: 1}, {W: 2, H: 1}, {W: 3, H: 3}, {W: 16, H: 1}} {
		for _, p := range somePatterns(s) {
			l := units(s)
			empty, _ := Empty(s)
			for _, i := range r.Perm(len(l)) { // also those that have no crease
				k := byUnit(p)[l[i]]
				empty = mustSet(t, empty, l[i], k)
			}
			if !Same(empty, p) {
				t.Errorf("%v was set to %v", p, empty)
			}
		}
	}
}

func TestSidesAreInverse(t *testing.T) {
	for _, s := range someSheets() {
		for _, p := range somePatterns(s) {
			q, _ := Opposite(p)
			if back, e := Opposite(q); e != api.OK || !Same(back, p) {
				t.Errorf("Opposite of Opposite of %v: %v, %d", p, back, e)
			}
			q, _ = Turned(p)
			if back, e := Turned(q); e != api.OK || !Same(back, p) {
				t.Errorf("Turned of Turned of %v: %v, %d", p, back, e)
			}
		}
	}
}

func TestFitsBothWays(t *testing.T) {
	var all []Pattern
	for _, s := range []sheets.Sheet{{W: 1, H: 1}, {W: 2, H: 1}} {
		all = append(all, somePatterns(s)...)
	}
	for a := range api.Kind(4) {
		for b := range api.Kind(4) {
			p := mustSet(t, Pattern{Sheet: two}, sheets.Unit{Cell: 1}, a)
			all = append(all, mustSet(t, p, sheets.Unit{Cell: 0, Edge: 2}, b))
		}
	}
	for _, p := range all {
		if !Fits(p, p) {
			t.Errorf("%v does not fit itself", p)
		}
		for _, q := range all {
			if Fits(p, q) && Fits(q, p) && !Same(p, q) {
				t.Errorf("%v and %v fit each other", p, q)
			}
		}
	}
}
