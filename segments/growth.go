package segments

import (
	"slices"

	"crimp/api"
	"crimp/patterns"
	"crimp/sheets"
)

// Of returns the longest segments of a pattern, in order. (P7.3)
func Of(p patterns.Pattern) ([]Segment, api.Errno) {
	if e := patterns.Check(p); e != api.OK {
		return nil, e
	}
	creases := map[spot]api.Kind{}
	var order []spot
	for _, c := range p.Creases {
		at := spotOf(p.Sheet, sheets.Unit{Cell: c.Cell, Edge: c.Edge})
		creases[at] = c.Kind
		order = append(order, at)
	}
	slices.SortFunc(order, compareSpots)
	var out []Segment
	for _, at := range order {
		if _, left := creases[at]; left { // otherwise a segment before has grown over it
			out = append(out, grow(creases, at))
		}
	}
	return slices.Clip(out), api.OK
}

// grow returns the longest segment that begins with the crease at a spot, and removes its creases.
func grow(creases map[spot]api.Kind, at spot) Segment {
	x := Segment{Kind: creases[at], Line: at.line, From: at.from}
growing:
	for {
		switch creases[at] {
		case x.Kind:
			delete(creases, at)
			at.from += length(at.line.Kind)
		default: // another kind, or no crease
			break growing
		}
	}
	x.To = at.from
	return x
}
