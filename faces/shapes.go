package faces

import (
	"slices"

	"crimp/api"
	"crimp/cells"
	"crimp/patterns"
	"crimp/sheets"
)

// isConvex reports whether a face of a valid pattern is convex. The ids of its cells ascend.
func isConvex(p patterns.Pattern, ids []int) bool {
	within := func(id int) bool {
		_, found := slices.BinarySearch(ids, id)
		return found
	}
	area := cellsWith(p.Sheet, ids)
	// A face is convex exactly if it lies on one side of each line that bounds it: a straight way that leaves it crosses one of these lines, and would have to cross it again to come back.
	// The border of the sheet has all cells on one side, and what else bounds a face is creases.
	for _, c := range p.Creases {
		behind, _ := sheets.Neighbour(p.Sheet, c.Cell, c.Edge)
		if within(c.Cell) == within(behind) {
			continue
		}
		l, _ := sheets.Line(p.Sheet, sheets.Unit{Cell: c.Cell, Edge: c.Edge})
		if !isOnOneSide(l, area) {
			return false
		}
	}
	return true
}

// cellsWith returns the cells with some ids, which a valid sheet has.
func cellsWith(s sheets.Sheet, ids []int) []api.Cell {
	out := make([]api.Cell, len(ids))
	for i, id := range ids {
		out[i], _ = sheets.Cell(s, id)
	}
	return out
}

// isOnOneSide reports whether all cells of an area lie on the same side of a valid line.
func isOnOneSide(l api.Line, area []api.Cell) bool {
	var on [2]bool
	for _, c := range area {
		side, _ := cells.Side(l, c)
		on[side] = true
	}
	return !(on[0] && on[1])
}
