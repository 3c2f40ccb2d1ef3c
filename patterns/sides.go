package patterns

import (
	"slices"

	"crimp/api"
	"crimp/sheets"
)

// Opposite exchanges mountains and valleys. (P6.4)
func Opposite(p Pattern) (Pattern, api.Errno) {
	if e := Check(p); e != api.OK {
		return Pattern{}, e
	}
	out := make([]Crease, len(p.Creases))
	copy(out, p.Creases)
	for i := range out {
		out[i].Kind = opposite(out[i].Kind)
	}
	return Pattern{Sheet: p.Sheet, Creases: out}, api.OK
}

// opposite returns the kind that a kind of crease is seen as from the other side of the paper.
func opposite(k api.Kind) api.Kind {
	return [...]api.Kind{api.Mountain: api.Valley, api.Valley: api.Mountain, api.Any: api.Any}[k]
}

// Turned returns the pattern as it is seen from the back: mirrored, with mountains and valleys exchanged. (P6.4)
func Turned(p Pattern) (Pattern, api.Errno) {
	if e := Check(p); e != api.OK {
		return Pattern{}, e
	}
	out := make([]Crease, len(p.Creases))
	for i, c := range p.Creases {
		u, e := turnedUnit(p.Sheet, unitOf(c))
		if e != api.OK {
			return Pattern{}, e // does not happen: each unit has one on the back side
		}
		out[i] = Crease{Cell: u.Cell, Edge: u.Edge, Kind: opposite(c.Kind)}
	}
	slices.SortFunc(out, func(a, b Crease) int { return compareUnits(unitOf(a), unitOf(b)) })
	return Pattern{Sheet: p.Sheet, Creases: out}, api.OK
}

// turnedUnit returns the unit as which a unit of a sheet is seen from the back.
func turnedUnit(s sheets.Sheet, u sheets.Unit) (sheets.Unit, api.Errno) {
	c, e := sheets.Cell(s, u.Cell)
	if e != api.OK {
		return sheets.Unit{}, e
	}
	id, e := sheets.Id(s, turnedCell(s, c))
	if e != api.OK {
		return sheets.Unit{}, e
	}
	// The edges 1 and 2 lie on the two diagonals, which a mirror exchanges.
	edge := [...]uint8{0, 2, 1}[u.Edge]
	return sheets.Name(s, id, edge)
}

// turnedCell returns where a cell of a sheet is seen from the back.
func turnedCell(s sheets.Sheet, c api.Cell) api.Cell {
	quarter := [...]uint8{api.South: api.South, api.East: api.West, api.North: api.North, api.West: api.East}[c.Q]
	return api.Cell{X: s.W - 1 - c.X, Y: c.Y, Q: quarter}
}
