package faces

import (
	"slices"

	"crimp/api"
	"crimp/patterns"
	"crimp/sheets"
)

const (
	edges   uint8 = 3  // of a cell
	unknown       = -1 // the face of a cell that has not been reached yet
)

// divide returns the face of each cell of a valid pattern, by its id.
func divide(p patterns.Pattern) []int {
	creased := creasedUnits(p)
	faces := slices.Repeat([]int{unknown}, sheets.Count(p.Sheet))
	count := 0
	var queue []int
	// gather is called by way of the queue for all cells that it reaches.
	gather := func(id int) {
		if faces[id] != unknown {
			return
		}
		faces[id] = count
		for edge := range edges {
			u, e := sheets.Name(p.Sheet, id, edge)
			if e != api.OK || creased[u] { // the border of the sheet, or a crease
				continue
			}
			behind, _ := sheets.Neighbour(p.Sheet, id, edge)
			queue = append(queue, behind)
		}
	}
	// The cells are gone through by their ids, so that faces are numbered by the least ones.
	for id := range faces {
		if faces[id] != unknown {
			continue
		}
		for queue = append(queue, id); len(queue) > 0; queue = queue[1:] {
			gather(queue[0])
		}
		count++
	}
	return faces
}

// creasedUnits returns the units on which creases lie.
func creasedUnits(p patterns.Pattern) map[sheets.Unit]bool {
	out := map[sheets.Unit]bool{}
	for _, c := range p.Creases {
		out[sheets.Unit{Cell: c.Cell, Edge: c.Edge}] = true
	}
	return out
}
