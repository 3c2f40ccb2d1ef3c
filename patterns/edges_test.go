package patterns

import (
	"maps"
	"math"
	"slices"
	"testing"

	"crimp/api"
	"crimp/sheets"
)

// byUnit returns the kinds of the creases of a pattern.
func byUnit(p Pattern) map[sheets.Unit]api.Kind {
	out := map[sheets.Unit]api.Kind{}
	for _, c := range p.Creases {
		out[sheets.Unit{Cell: c.Cell, Edge: c.Edge}] = c.Kind
	}
	return out
}

// fromUnits returns the pattern in which units have kinds, as far as these are not 0.
func fromUnits(s sheets.Sheet, kinds map[sheets.Unit]api.Kind) Pattern {
	p := Pattern{Sheet: s}
	for _, u := range units(s) { // they ascend
		if kinds[u] != 0 {
			p.Creases = append(p.Creases, Crease{u.Cell, u.Edge, kinds[u]})
		}
	}
	return p
}

func TestSetAndKindExamples(t *testing.T) { // P6.2
	p, e := Set(on(), 7, 0, api.Mountain)
	if e != api.OK || !Same(p, on(Crease{1, 0, api.Mountain})) {
		t.Errorf("Set: %v, %d", p, e)
	}
	for _, x := range []struct {
		id   int
		edge uint8
		k    api.Kind
	}{{1, 0, api.Mountain}, {7, 0, api.Mountain}, {0, 1, 0}, {1, 1, 0}} {
		if k, e := Kind(p, x.id, x.edge); e != api.OK || k != x.k {
			t.Errorf("Kind of %d, %d: %d, %d", x.id, x.edge, k, e)
		}
	}
}

func TestSetInTurn(t *testing.T) { // P6.2
	p := on()
	for i, x := range []struct {
		id   int
		edge uint8
		k    api.Kind
		want []Crease
	}{
		{1, 0, 0, nil},
		{6, 1, api.Any, []Crease{{6, 1, 3}}},
		{0, 2, api.Valley, []Crease{{0, 2, 2}, {6, 1, 3}}},
		{2, 2, api.Mountain, []Crease{{0, 2, 2}, {1, 2, 1}, {6, 1, 3}}},
		{0, 1, 0, []Crease{{0, 2, 2}, {1, 2, 1}, {6, 1, 3}}},
		{2, 2, api.Any, []Crease{{0, 2, 2}, {1, 2, 3}, {6, 1, 3}}},
		{2, 2, api.Any, []Crease{{0, 2, 2}, {1, 2, 3}, {6, 1, 3}}},
		{1, 2, 0, []Crease{{0, 2, 2}, {6, 1, 3}}},
		{7, 1, 0, []Crease{{0, 2, 2}}},
		{3, 2, 0, nil},
	} {
		q, e := Set(p, x.id, x.edge, x.k)
		if e != api.OK || !Same(q, on(x.want...)) {
			t.Errorf("%d: %v, %d", i, q, e)
		}
		p = q
	}
}

func TestSetAndKind(t *testing.T) { // P6.2
	for _, s := range someSheets() {
		l := units(s)
		if len(l) > 100 { // units at both ends and between them are enough
			l = slices.Concat(l[:8], l[len(l)/2:len(l)/2+8], l[len(l)-8:])
		}
		for _, p := range somePatterns(s) {
			kinds := byUnit(p)
			for _, u := range l {
				for _, id := range []int{u.Cell, other(s, u)} {
					if k, e := Kind(p, id, u.Edge); e != api.OK || k != kinds[u] {
						t.Errorf("Kind of %v, %d, %d: %d, %d", p, id, u.Edge, k, e)
					}
					for k := range api.Kind(4) {
						got := checkPattern(t, "Set", p, func(p Pattern) (Pattern, api.Errno) { return Set(p, id, u.Edge, k) })
						changed := maps.Clone(kinds)
						changed[u] = k
						if !Same(got, fromUnits(s, changed)) {
							t.Errorf("Set of %v, %d, %d, %d: %v", p, id, u.Edge, k, got)
						}
					}
				}
			}
		}
	}
}

func TestSetAndKindErrors(t *testing.T) { // P6.2: first the errors of sheets.Name, and then that of the kind
	p := on(Crease{0, 1, 1}, Crease{1, 0, 2})
	for _, x := range []struct {
		id   int
		edge uint8
		e    api.Errno
	}{
		{0, 0, api.ErrNone}, {5, 0, api.ErrNone}, {0, 3, api.ErrArg}, {7, 255, api.ErrArg}, {8, 0, api.ErrNone}, {8, 3, api.ErrNone}, {-1, 1, api.ErrNone}, {-1, 255, api.ErrNone},
		{math.MaxInt, 0, api.ErrNone}, {math.MinInt, 0, api.ErrNone}, {math.MinInt, 3, api.ErrNone}, {1<<32 + 1, 0, api.ErrNone},
	} {
		if k, e := Kind(p, x.id, x.edge); e != x.e || k != 0 {
			t.Errorf("Kind of %d, %d: %d, %d", x.id, x.edge, k, e)
		}
		for _, k := range append([]api.Kind{1, 2, 3}, badKinds...) { // 0 is among the bad ones
			if q, e := Set(p, x.id, x.edge, k); e != x.e || !isZero(q) {
				t.Errorf("Set of %d, %d, %d: %v, %d", x.id, x.edge, k, q, e)
			}
		}
	}
	for _, k := range badKinds {
		if k == 0 {
			continue
		}
		for _, at := range []sheets.Unit{{Cell: 0, Edge: 1}, {Cell: 0, Edge: 2}, {Cell: 7, Edge: 0}, {Cell: 7, Edge: 1}} {
			if q, e := Set(p, at.Cell, at.Edge, k); e != api.ErrArg || !isZero(q) {
				t.Errorf("Set of %v, %d: %v, %d", at, k, q, e)
			}
		}
	}
}
