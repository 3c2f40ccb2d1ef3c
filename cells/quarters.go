package cells

import (
	"crimp/api"
	"crimp/moves"
)

const (
	quarters uint8 = 4 // the cells of a square
	edges    uint8 = 3 // of a cell
	turns    uint8 = 8 // of moves
)

// neighbours has, by the quarter of the square between (0, 0) and (1, 1), and by the edge, the cell on the other side of the edge.
var neighbours = [quarters][edges]api.Cell{
	api.South: {{Y: -1, Q: api.North}, {Q: api.East}, {Q: api.West}},
	api.East:  {{X: 1, Q: api.West}, {Q: api.South}, {Q: api.North}},
	api.North: {{Y: 1, Q: api.South}, {Q: api.West}, {Q: api.East}},
	api.West:  {{X: -1, Q: api.East}, {Q: api.North}, {Q: api.South}},
}

// corners has, by the quarter of the same square, the corners that the edges 0, 1 and 2 do not touch, in halves.
var corners = [quarters][3]api.Point{
	api.South: {{X: 1, Y: 1}, {X: 0, Y: 0}, {X: 2, Y: 0}},
	api.East:  {{X: 1, Y: 1}, {X: 2, Y: 2}, {X: 2, Y: 0}},
	api.North: {{X: 1, Y: 1}, {X: 2, Y: 2}, {X: 0, Y: 2}},
	api.West:  {{X: 1, Y: 1}, {X: 0, Y: 0}, {X: 0, Y: 2}},
}

// The cells and edges of the functions below exist; what they return may lie beyond the limits.

// lineOf returns the line on which an edge lies.
func lineOf(c api.Cell, edge uint8) api.Line {
	switch edge {
	case 1:
		return api.Line{Kind: api.U, C: c.X + c.Y + 1}
	case 2:
		return api.Line{Kind: api.D, C: c.Y - c.X}
	}
	switch c.Q {
	case api.South:
		return api.Line{Kind: api.H, C: c.Y}
	case api.North:
		return api.Line{Kind: api.H, C: c.Y + 1}
	case api.East:
		return api.Line{Kind: api.V, C: c.X + 1}
	}
	return api.Line{Kind: api.V, C: c.X}
}

// neighbourOf returns the cell on the other side of an edge.
func neighbourOf(c api.Cell, edge uint8) api.Cell {
	n := neighbours[c.Q][edge]
	return api.Cell{X: c.X + n.X, Y: c.Y + n.Y, Q: n.Q}
}

// cornersOf returns the corners of a cell.
func cornersOf(c api.Cell) [3]api.Point {
	out := corners[c.Q]
	for i := range out {
		out[i].X += 2 * c.X
		out[i].Y += 2 * c.Y
	}
	return out
}

// moved returns where a valid move takes a cell.
func moved(m moves.Move, c api.Cell) api.Cell {
	to := cornersOf(c)
	for i := range 3 {
		// There is no error: moves and cells have limits that keep all images within those of points.
		to[i], _ = moves.Point(m, to[i])
	}
	return withCorners(to)
}

// withCorners returns the cell that has these corners: first the middle of its square, and then the other two in either order.
func withCorners(at [3]api.Point) api.Cell {
	// The middle has odd coordinates, so that these divisions are exact, also below 0.
	c := api.Cell{X: (at[0].X - 1) / 2, Y: (at[0].Y - 1) / 2}
	for q := range quarters {
		c.Q = q
		has := cornersOf(c)
		if has[1] == at[1] && has[2] == at[2] || has[1] == at[2] && has[2] == at[1] {
			break
		}
	}
	return c
}
