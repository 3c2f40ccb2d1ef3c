package places

import (
	"math/rand"

	"crimp/api"
	"crimp/cells"
	"crimp/moves"
	"crimp/patterns"
	"crimp/sheets"
)

// someSheets are small sheets, narrow ones, and large ones.
var someSheets = []sheets.Sheet{{W: 1, H: 1}, {W: 2, H: 1}, {W: 1, H: 2}, {W: 2, H: 2}, {W: 3, H: 2}, {W: 2, H: 5}, {W: 4, H: 4}, {W: 16, H: 16}, {W: 256, H: 1}, {W: 1, H: 256}}

// A badPattern is a pattern that is not valid, and its error.
type badPattern struct {
	p patterns.Pattern
	e api.Errno
}

// badPatterns returns patterns that are not valid.
func badPatterns() []badPattern {
	good, late := patterns.Crease{Cell: 0, Edge: 1, Kind: api.Any}, patterns.Crease{Cell: 1, Edge: 0, Kind: api.Any}
	kind, unit := patterns.Crease{Cell: 1, Edge: 2}, patterns.Crease{Cell: 7, Edge: 0, Kind: api.Any}
	on := func(l ...patterns.Crease) patterns.Pattern { return patterns.Pattern{Sheet: two, Creases: l} }
	return []badPattern{
		{on(kind), api.ErrArg}, {on(good, unit, kind), api.ErrArg}, {on(late, good, kind), api.ErrArg},
		{on(unit), api.ErrNone}, {on(late, good, unit), api.ErrNone}, {on(patterns.Crease{Cell: 8, Edge: 0, Kind: api.Any}), api.ErrNone}, {on(patterns.Crease{Cell: 0, Edge: 3, Kind: api.Any}), api.ErrNone},
		{on(late, good), api.ErrState}, {on(good, good), api.ErrState},
	}
}

// chosen returns the pattern of a sheet with a crease on each unit for which choose returns a kind.
func chosen(s sheets.Sheet, choose func(i int, u sheets.Unit) api.Kind) patterns.Pattern {
	p := patterns.Pattern{Sheet: s}
	units, _ := sheets.Units(s)
	for i, u := range units {
		if k := choose(i, u); k != 0 {
			p.Creases = append(p.Creases, patterns.Crease{Cell: u.Cell, Edge: u.Edge, Kind: k})
		}
	}
	return p
}

// numbered returns the pattern of a sheet with a crease on each unit whose index is that of a bit.
func numbered(s sheets.Sheet, bits int) patterns.Pattern {
	return chosen(s, func(i int, _ sheets.Unit) api.Kind {
		if bits>>i&1 == 1 {
			return api.Kind(1 + i%3)
		}
		return 0
	})
}

// allPatterns returns all patterns of the smallest sheets, as far as their places can differ.
func allPatterns() []patterns.Pattern {
	var out []patterns.Pattern
	for _, s := range []sheets.Sheet{{W: 1, H: 1}, {W: 2, H: 1}, {W: 1, H: 2}, {W: 3, H: 1}} {
		units, _ := sheets.Units(s)
		for bits := range 1 << len(units) {
			out = append(out, numbered(s, bits))
		}
	}
	return out
}

// aroundMiddle returns all patterns of 2 by 2 squares in which the middles of the squares close: whether they tear is told at (2, 2).
func aroundMiddle() []patterns.Pattern {
	var out []patterns.Pattern
	for bits := range 1 << 12 {
		out = append(out, chosen(four, func(_ int, u sheets.Unit) api.Kind {
			ends, _ := sheets.Ends(four, u)
			l, _ := sheets.Line(four, u)
			x, y := (ends[0].X+ends[1].X)/4, (ends[0].Y+ends[1].Y)/4
			bit := 8 + 2*x + y // the sides of squares
			switch l.Kind {
			case api.H:
				bit = 10 + ends[0].X/2
			case api.V:
				bit = 8 + ends[0].Y/2
			case api.U: // one bit for both halves of each diagonal
				bit = 4*x + 2*y
			case api.D:
				bit = 4*x + 2*y + 1
			}
			return api.Kind(bits >> bit & 1 * 2)
		}))
	}
	return out
}

// A foldedSheet is a pattern that does not tear, and the places of all cells.
type foldedSheet struct {
	p      patterns.Pattern
	places []moves.Move
}

// foldTimes folds a sheet in lines that are chosen by chance: all that lies on one side of them is turned over.
func foldTimes(s sheets.Sheet, times int, r *rand.Rand) foldedSheet {
	all, _ := sheets.Cells(s)
	places := make([]moves.Move, len(all))
	for range times {
		l := api.Line{Kind: api.LineKind(1 + r.Intn(4)), C: r.Intn(s.W+s.H) - s.W/2}
		mirror, _ := moves.Of(l)
		side := r.Intn(2)
		for id, c := range all {
			image, _ := cells.Move(places[id], c)
			if at, _ := cells.Side(l, image); at == side {
				places[id], _ = moves.Then(places[id], mirror)
			}
		}
	}
	p := chosen(s, func(i int, u sheets.Unit) api.Kind {
		if behind, _ := sheets.Neighbour(s, u.Cell, u.Edge); places[behind] != places[u.Cell] {
			return api.Kind(1 + i%3)
		}
		return 0
	})
	return foldedSheet{p, places}
}

// foldedSheets returns sheets that have been folded several times.
func foldedSheets() []foldedSheet {
	r := rand.New(rand.NewSource(10))
	var out []foldedSheet
	for _, s := range someSheets {
		for times := range 9 {
			out = append(out, foldTimes(s, times, r))
		}
	}
	return out
}

// flatPatterns returns patterns that do not tear: also such that are not made by folds of all layers.
func flatPatterns() []patterns.Pattern {
	var out []patterns.Pattern
	for _, x := range foldedSheets() {
		out = append(out, x.p)
	}
	for _, p := range append(allPatterns(), aroundMiddle()...) {
		if _, tears := placesOf(p, moves.Identity()); !tears {
			out = append(out, p)
		}
	}
	return out
}

// somePatterns returns patterns without creases, with some, and with all; most of them tear.
func somePatterns() []patterns.Pattern {
	r := rand.New(rand.NewSource(11))
	var out []patterns.Pattern
	for _, x := range foldedSheets() {
		out = append(out, x.p)
	}
	for _, s := range someSheets {
		units, _ := sheets.Units(s)
		out = append(out, patterns.Pattern{Sheet: s}, patterns.Pattern{Sheet: s, Creases: []patterns.Crease{}})
		out = append(out, chosen(s, func(int, sheets.Unit) api.Kind { return api.Mountain }))
		for range 5 {
			single := r.Intn(len(units))
			out = append(out, chosen(s, func(i int, _ sheets.Unit) api.Kind {
				if i == single {
					return api.Valley
				}
				return 0
			}))
			// A sheet that does not tear, but for one crease that is missing or one that is too much.
			p := foldTimes(s, 1+r.Intn(4), r).p
			u := units[single]
			was, _ := patterns.Kind(p, u.Cell, u.Edge)
			kind := api.Kind(0)
			if was == 0 {
				kind = api.Any
			}
			p, _ = patterns.Set(p, u.Cell, u.Edge, kind)
			out = append(out, p)
		}
	}
	return out
}

// placesOf returns the places of the cells of a pattern, found by going over all units again and again, and whether the paper would have to tear.
func placesOf(p patterns.Pattern, root moves.Move) ([]moves.Move, bool) {
	kinds := map[sheets.Unit]api.Kind{}
	for _, c := range p.Creases {
		kinds[sheets.Unit{Cell: c.Cell, Edge: c.Edge}] = c.Kind
	}
	units, _ := sheets.Units(p.Sheet)
	across := func(u sheets.Unit, place moves.Move) moves.Move {
		if kinds[u] == 0 {
			return place
		}
		l, _ := sheets.Line(p.Sheet, u)
		mirror, _ := moves.Of(l)
		out, _ := moves.Then(mirror, place)
		return out
	}
	places := map[int]moves.Move{0: root}
	for len(places) < sheets.Count(p.Sheet) {
		for _, u := range units {
			other, _ := sheets.Neighbour(p.Sheet, u.Cell, u.Edge)
			from, has := places[u.Cell]
			to, hasOther := places[other]
			if has && !hasOther {
				places[other] = across(u, from)
			}
			if hasOther && !has {
				places[u.Cell] = across(u, to)
			}
		}
	}
	var out []moves.Move
	for id := range sheets.Count(p.Sheet) {
		out = append(out, places[id])
	}
	for _, u := range units {
		other, _ := sheets.Neighbour(p.Sheet, u.Cell, u.Edge)
		if places[other] != across(u, places[u.Cell]) {
			return nil, true
		}
	}
	return out, false
}
