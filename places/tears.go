package places

import (
	"crimp/api"
	"crimp/moves"
	"crimp/patterns"
	"crimp/sheets"
)

const edges uint8 = 3 // of a cell

// fold returns the places of all cells of a valid pattern, by their ids, if that of the cell 0 moves nothing. If the paper would have to tear, it tells so, and the places mean nothing.
func fold(p patterns.Pattern) (places []moves.Move, tears bool) {
	places = make([]moves.Move, sheets.Count(p.Sheet))
	known := make([]bool, len(places))
	var queue []int
	put := func(id int, place moves.Move) {
		if known[id] {
			tears = tears || places[id] != place
			return
		}
		places[id], known[id] = place, true
		queue = append(queue, id)
	}
	mirrors := reflections(p)
	for put(0, moves.Identity()); len(queue) > 0 && !tears; queue = queue[1:] {
		id := queue[0]
		for edge := range edges {
			u, e := sheets.Name(p.Sheet, id, edge)
			if e != api.OK { // the border of the sheet
				continue
			}
			behind, _ := sheets.Neighbour(p.Sheet, id, edge)
			// There is no error: a place moves no cell farther than a walk over the whole sheet is long.
			place, _ := moves.Then(mirrors[u], places[id])
			put(behind, place)
		}
	}
	return places, tears
}

// reflections returns what each crease does to the place behind it. What is not in the map is the identity, as the sheet is flat there.
func reflections(p patterns.Pattern) map[sheets.Unit]moves.Move {
	out := map[sheets.Unit]moves.Move{}
	for _, c := range p.Creases {
		u := sheets.Unit{Cell: c.Cell, Edge: c.Edge}
		// There are no errors: the unit is one of the sheet, which does not reach the limits of lines.
		l, _ := sheets.Line(p.Sheet, u)
		out[u], _ = moves.Of(l)
	}
	return out
}
