package sets

import (
	"slices"

	"crimp/api"
	"crimp/cells"
	"crimp/moves"
)

const (
	quarters       = 4 // the cells of a square
	edges    uint8 = 3 // of a cell
)

// Edge is an edge of a cell.
type Edge struct {
	Cell api.Cell
	Edge uint8
}

// Move returns the set of the cells on which a move moves those of a set. (P4.4)
func Move(m moves.Move, l []api.Cell) ([]api.Cell, api.Errno) {
	if moves.Check(m) != api.OK {
		return nil, api.ErrArg
	}
	if e := Check(l); e != api.OK {
		return nil, e
	}
	out := make([]api.Cell, len(l))
	for i, c := range l {
		to, e := cells.Move(m, c)
		if e != api.OK {
			return nil, e
		}
		out[i] = to
	}
	slices.SortFunc(out, cells.Compare)
	return out, api.OK
}

// Squares returns the squares of which all four cells are in a set, as their cells South. (P4.5)
func Squares(l []api.Cell) ([]api.Cell, api.Errno) {
	if e := Check(l); e != api.OK {
		return nil, e
	}
	var out []api.Cell
	for i, c := range l {
		// The cells of a square follow each other: its cell West stands three further only if c is South, and none is missing between them.
		last := i + quarters - 1
		if last < len(l) && l[last] == (api.Cell{X: c.X, Y: c.Y, Q: api.West}) {
			out = append(out, c)
		}
	}
	return slices.Clip(out), api.OK
}

// Connected reports whether all cells of a set can be reached from each other. (P4.5)
func Connected(l []api.Cell) (bool, api.Errno) {
	if e := Check(l); e != api.OK {
		return false, e
	}
	if len(l) == 0 {
		return true, api.OK
	}
	return reachable(l) == len(l), api.OK
}

// reachable counts the cells of a set that can be reached from its first one, which is counted too.
func reachable(l []api.Cell) int {
	reached := map[api.Cell]bool{l[0]: true}
	queue := []api.Cell{l[0]}
	for next := 0; next < len(queue); next++ {
		for edge := range edges {
			n, e := cells.Neighbour(queue[next], edge)
			if e == api.OK && !reached[n] && contains(l, n) {
				reached[n] = true
				queue = append(queue, n)
			}
		}
	}
	return len(queue)
}

// contains is Has for sets: it relies on their order, and looks at few of their cells.
func contains(l []api.Cell, c api.Cell) bool {
	_, found := slices.BinarySearchFunc(l, c, cells.Compare)
	return found
}

// Outline returns the edges of a set behind which there is no cell of it, by their cells, and then by their numbers. (P4.5)
func Outline(l []api.Cell) ([]Edge, api.Errno) {
	if e := Check(l); e != api.OK {
		return nil, e
	}
	var out []Edge
	for _, c := range l {
		for edge := range edges {
			// An error means that there is no valid cell behind the edge.
			if n, e := cells.Neighbour(c, edge); e != api.OK || !contains(l, n) {
				out = append(out, Edge{Cell: c, Edge: edge})
			}
		}
	}
	return slices.Clip(out), api.OK
}
