package segments

import (
	"crimp/api"
	"crimp/sheets"
)

// A spot is where a unit begins: its line, and the place of its first end. On a sheet no two units begin at the same spot.
type spot struct {
	line api.Line
	from int
}

// length returns how long the units on lines of a kind are.
func length(k api.LineKind) int {
	if k == api.V || k == api.H {
		return 2
	}
	return 1
}

// unitAt returns the unit of a valid sheet that begins at a spot, and whether there is one.
func unitAt(s sheets.Sheet, at spot) (sheets.Unit, bool) {
	if at.from%length(at.line.Kind) != 0 {
		return sheets.Unit{}, false
	}
	c, edge := lowCell(at)
	id, e := sheets.Id(s, c)
	if e != api.OK {
		return sheets.Unit{}, false
	}
	u, e := sheets.Name(s, id, edge)
	return u, e == api.OK
}

// lowCell returns the cell on the low side of the unit that would begin at a spot, and the number of the edge between both.
func lowCell(at spot) (api.Cell, uint8) {
	// Places are in halves. A shift rounds them down below 0, too.
	c, whole, half := at.line.C, at.from>>1, at.from&1
	switch at.line.Kind {
	case api.V:
		return api.Cell{X: c - 1, Y: whole, Q: api.East}, 0
	case api.H:
		return api.Cell{X: whole, Y: c - 1, Q: api.North}, 0
	case api.U:
		return api.Cell{X: whole, Y: c - 1 - whole, Q: [...]uint8{api.West, api.South}[half]}, 1
	}
	return api.Cell{X: whole, Y: c + whole, Q: [...]uint8{api.South, api.East}[half]}, 2
}

// spotOf returns the spot at which a unit of a valid sheet begins.
func spotOf(s sheets.Sheet, u sheets.Unit) spot {
	// There are no errors, as the sheet has the unit. Of its ends the first one has the lesser place.
	line, _ := sheets.Line(s, u)
	ends, _ := sheets.Ends(s, u)
	if line.Kind == api.V {
		return spot{line: line, from: ends[0].Y}
	}
	return spot{line: line, from: ends[0].X}
}
