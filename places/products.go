package places

import (
	"crimp/api"
	"crimp/corners"
	"crimp/lines"
	"crimp/moves"
)

// kinds are those of the lines in the directions from 0 to 3. The directions from 4 to 7 are their opposites.
var kinds = [4]api.LineKind{api.H, api.D, api.V, api.U}

// A product is the move that reflections make, one after another.
type product struct{ move moves.Move }

// reflect puts the reflection in a line behind those before it.
func (all *product) reflect(l api.Line) {
	// There are no errors: lines through a sheet do not reach the limits, nor do their reflections.
	next, _ := moves.Of(l)
	all.move, _ = moves.Then(all.move, next)
}

// visitLines calls visit for the lines on which the rays at a corner lie, one after another.
func visitLines(at api.Point, rays []corners.Ray, visit func(api.Line)) {
	for _, ray := range rays {
		l, _ := lines.Through(kinds[ray.Dir%len(kinds)], at)
		visit(l)
	}
}
