package sheets

import (
	"iter"
	"slices"

	"crimp/api"
	"crimp/cells"
)

// Unit is an edge between two cells of a sheet: the lesser id, and its edge.
type Unit struct {
	Cell int
	Edge uint8
}

// Neighbour returns the id of the neighbour across an edge. (P5.3)
func Neighbour(s Sheet, id int, edge uint8) (int, api.Errno) {
	c, e := Cell(s, id)
	if e != api.OK {
		return 0, e
	}
	behind, e := cells.Neighbour(c, edge)
	if e != api.OK {
		return 0, e // there is no such edge: sheets do not reach the limits of cells
	}
	return Id(s, behind)
}

// Name returns the name of an edge between two cells. (P5.3)
func Name(s Sheet, id int, edge uint8) (Unit, api.Errno) {
	behind, e := Neighbour(s, id, edge)
	if e != api.OK {
		return Unit{}, e
	}
	return Unit{Cell: min(id, behind), Edge: edge}, api.OK
}

// checkUnit returns the error of Check, ErrNone if a sheet has no unit with this name, or OK.
func checkUnit(s Sheet, u Unit) api.Errno {
	if e := Check(s); e != api.OK {
		return e
	}
	if !isUnit(s, u) {
		return api.ErrNone
	}
	return api.OK
}

// isUnit reports whether a sheet has a unit with this name, in which the greater one of both ids does not stand.
func isUnit(s Sheet, u Unit) bool {
	name, e := Name(s, u.Cell, u.Edge)
	return e == api.OK && name == u
}

// Units returns all edges between cells, ascending. (P5.4)
func Units(s Sheet) ([]Unit, api.Errno) {
	if e := Check(s); e != api.OK {
		return nil, e
	}
	var out []Unit
	for u := range units(s) {
		out = append(out, u)
	}
	return slices.Clip(out), api.OK
}

// units visits the units of a valid sheet, ascending.
func units(s Sheet) iter.Seq[Unit] {
	return func(yield func(Unit) bool) {
		for id := range Count(s) {
			for edge := range edges {
				u := Unit{Cell: id, Edge: edge}
				if isUnit(s, u) && !yield(u) {
					return
				}
			}
		}
	}
}

// Line returns the line on which an edge lies. (P5.4)
func Line(s Sheet, u Unit) (api.Line, api.Errno) {
	if e := checkUnit(s, u); e != api.OK {
		return api.Line{}, e
	}
	return cells.Line(cellOf(s, u.Cell), u.Edge)
}

// Ends returns the points between which an edge lies, the left one or the lower one first. (P5.4)
func Ends(s Sheet, u Unit) ([2]api.Point, api.Errno) {
	if e := checkUnit(s, u); e != api.OK {
		return [2]api.Point{}, e
	}
	corners, e := cells.Corners(cellOf(s, u.Cell))
	if e != api.OK {
		return [2]api.Point{}, e // does not happen: cells of sheets are valid
	}
	// An edge touches all corners but the one that has its number.
	a, b := corners[(u.Edge+1)%edges], corners[(u.Edge+2)%edges]
	if a.X > b.X || a.X == b.X && a.Y > b.Y {
		a, b = b, a
	}
	return [2]api.Point{a, b}, api.OK
}
