package patterns

import (
	"slices"
	"sort"

	"crimp/api"
	"crimp/sheets"
)

// Kind returns the kind of the crease across an edge of a cell; 0 if there is none. (P6.2)
func Kind(p Pattern, id int, edge uint8) (api.Kind, api.Errno) {
	u, e := unitAt(p, id, edge)
	if e != api.OK {
		return 0, e
	}
	if at, found := find(p.Creases, u); found {
		return p.Creases[at].Kind, api.OK
	}
	return 0, api.OK
}

// Set changes the kind of the crease across an edge of a cell; 0 removes it. (P6.2)
func Set(p Pattern, id int, edge uint8, k api.Kind) (Pattern, api.Errno) {
	u, e := unitAt(p, id, edge)
	if e != api.OK {
		return Pattern{}, e
	}
	if k != 0 && !isKind(k) {
		return Pattern{}, api.ErrArg
	}
	return Pattern{Sheet: p.Sheet, Creases: withKind(p.Creases, u, k)}, api.OK
}

// unitAt returns the unit at an edge of a cell, which may be named from both sides. Its errors are that of Check, and then those of sheets.Name.
func unitAt(p Pattern, id int, edge uint8) (sheets.Unit, api.Errno) {
	if e := Check(p); e != api.OK {
		return sheets.Unit{}, e
	}
	return sheets.Name(p.Sheet, id, edge)
}

// find returns where the crease on a unit stands in an ascending list, or would have to stand, and whether it is there.
func find(l []Crease, u sheets.Unit) (int, bool) {
	at := sort.Search(len(l), func(i int) bool { return compareUnits(unitOf(l[i]), u) >= 0 })
	return at, at < len(l) && unitOf(l[at]) == u
}

// withKind returns an ascending list in which the crease on a unit has a kind, or is left out if this is 0.
func withKind(l []Crease, u sheets.Unit, k api.Kind) []Crease {
	at, found := find(l, u)
	out := slices.Clone(l)
	switch {
	case found && k == 0:
		out = slices.Delete(out, at, at+1)
	case found:
		out[at].Kind = k
	case k != 0:
		out = slices.Insert(out, at, Crease{Cell: u.Cell, Edge: u.Edge, Kind: k})
	}
	return slices.Clip(out)
}
