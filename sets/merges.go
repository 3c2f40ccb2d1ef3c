package sets

import (
	"iter"

	"crimp/api"
	"crimp/cells"
)

// owners tells which of two sets have a cell. Several of its values can be asked for at once, as a sum.
type owners uint8

const (
	firstOnly owners = 1 << iota
	secondOnly
	both
)

// Union returns the cells that are in one of two sets. (P4.3)
func Union(a, b []api.Cell) ([]api.Cell, api.Errno) { return owned(a, b, firstOnly|secondOnly|both) }

// Common returns the cells that are in both of two sets. (P4.3)
func Common(a, b []api.Cell) ([]api.Cell, api.Errno) { return owned(a, b, both) }

// Minus returns the cells of a set that another one has not. (P4.3)
func Minus(a, b []api.Cell) ([]api.Cell, api.Errno) { return owned(a, b, firstOnly) }

// owned returns the cells of two sets that have one of the wanted owners.
func owned(a, b []api.Cell, wanted owners) ([]api.Cell, api.Errno) {
	if e := checkBoth(a, b); e != api.OK {
		return nil, e
	}
	var out []api.Cell
	for c, by := range merged(a, b) {
		if wanted&by != 0 {
			out = append(out, c)
		}
	}
	return limited(out)
}

// merged visits the cells of two sets, each once and ascending, with their owners.
func merged(a, b []api.Cell) iter.Seq2[api.Cell, owners] {
	return func(yield func(api.Cell, owners) bool) {
		i, j := 0, 0
		for i < len(a) || j < len(b) {
			c, by := lowest(a[i:], b[j:])
			if !yield(c, by) {
				return
			}
			if by != secondOnly {
				i++
			}
			if by != firstOnly {
				j++
			}
		}
	}
}

// lowest returns the lowest cell of two sets, one of which has cells, with its owners.
func lowest(a, b []api.Cell) (api.Cell, owners) {
	if len(a) == 0 {
		return b[0], secondOnly
	}
	if len(b) == 0 {
		return a[0], firstOnly
	}
	switch cells.Compare(a[0], b[0]) {
	case -1:
		return a[0], firstOnly
	case 1:
		return b[0], secondOnly
	}
	return a[0], both
}
