package corners

import (
	"iter"

	"crimp/api"
	"crimp/cells"
)

const edges uint8 = 3 // of a cell

// cellsAround visits the cells around a corner of a sheet, turning left. Each of them is a neighbour of the one before.
func cellsAround(at api.Point) iter.Seq[api.Cell] {
	return func(yield func(api.Cell) bool) {
		first, came := start(at)
		c := first
	walk:
		for yield(c) {
			// There are no errors, as sheets do not reach the limits of cells.
			points, _ := cells.Corners(c)
			for edge := range edges {
				// The walk goes on across the edge that ends at the corner, too, but is not the one that it came across.
				// The edge that does not touch the corner has its number.
				if edge == came || points[edge] == at {
					continue
				}
				c, _ = cells.Neighbour(c, edge)
				came = edge // it has this number on both sides
				if c == first {
					break walk
				}
				break
			}
		}
	}
}

// start returns the first cell of a walk around a corner, and its edge in the direction behind which it lies.
func start(at api.Point) (api.Cell, uint8) {
	// In halves, the square to the right of and above a corner begins there, and that around a middle just before it.
	c := api.Cell{X: at.X / 2, Y: at.Y / 2, Q: api.South}
	if at.X%2 == 0 {
		return c, 0 // on the direction 0
	}
	c.Q = api.North
	return c, 2 // on the direction 1
}
