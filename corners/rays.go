package corners

import (
	"cmp"
	"slices"

	"crimp/api"
	"crimp/patterns"
	"crimp/sheets"
)

const round = 8 // the eighths of a whole turn

// directions has a step in each direction.
var directions = [round]api.Point{{X: 1}, {X: 1, Y: 1}, {Y: 1}, {X: -1, Y: 1}, {X: -1}, {X: -1, Y: -1}, {Y: -1}, {X: 1, Y: -1}}

// raysAt returns the rays at a corner of a valid pattern, by their directions.
func raysAt(p patterns.Pattern, at api.Point) []Ray {
	var out []Ray
	for _, c := range p.Creases {
		ends, _ := sheets.Ends(p.Sheet, sheets.Unit{Cell: c.Cell, Edge: c.Edge})
		switch at {
		case ends[0]:
			out = append(out, Ray{Dir: direction(at, ends[1]), Kind: c.Kind})
		case ends[1]:
			out = append(out, Ray{Dir: direction(at, ends[0]), Kind: c.Kind})
		}
	}
	slices.SortFunc(out, func(a, b Ray) int { return cmp.Compare(a.Dir, b.Dir) })
	return slices.Clip(out)
}

// direction returns the direction in which a unit leaves one of its ends for the other one.
func direction(from, to api.Point) int {
	// Units on the sides of squares are two steps long.
	step := api.Point{X: cmp.Compare(to.X, from.X), Y: cmp.Compare(to.Y, from.Y)}
	for dir, d := range directions {
		if d == step {
			return dir
		}
	}
	return 0 // does not happen: units leave in one of the eight directions
}

// angle returns the eighths from a ray to another one, turning left: a whole turn to itself.
func angle(from, to Ray) int {
	if turned := (to.Dir - from.Dir + round) % round; turned > 0 {
		return turned
	}
	return round
}
