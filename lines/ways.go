package lines

import "crimp/api"

// A way is what the lines of one kind do. Its functions take C and points in the same unit, be it whole or halves.
type way struct {
	letter rune
	value  func(p api.Point) int              // x, y, x + y or y - x, which is C on the line
	mirror func(c int, p api.Point) api.Point // the mirror image of p in the line
	point  func(c int) api.Point              // some point on the line
	images [5]api.LineKind                    // by the kind of a line, that of its mirror image
}

// isKind reports whether there are lines of a kind.
func isKind(k api.LineKind) bool { return api.V <= k && k <= api.D }

// wayOf returns what a kind, for which isKind holds, does.
func wayOf(k api.LineKind) way {
	straight := [...]api.LineKind{api.V: api.V, api.H: api.H, api.U: api.D, api.D: api.U}
	slanted := [...]api.LineKind{api.V: api.H, api.H: api.V, api.U: api.U, api.D: api.D}
	return [...]way{
		api.V: {
			letter: 'x',
			value:  func(p api.Point) int { return p.X },
			mirror: func(c int, p api.Point) api.Point { return api.Point{X: 2*c - p.X, Y: p.Y} },
			point:  func(c int) api.Point { return api.Point{X: c} },
			images: straight,
		},
		api.H: {
			letter: 'y',
			value:  func(p api.Point) int { return p.Y },
			mirror: func(c int, p api.Point) api.Point { return api.Point{X: p.X, Y: 2*c - p.Y} },
			point:  func(c int) api.Point { return api.Point{Y: c} },
			images: straight,
		},
		api.U: {
			letter: 'u',
			value:  func(p api.Point) int { return p.X + p.Y },
			mirror: func(c int, p api.Point) api.Point { return api.Point{X: c - p.Y, Y: c - p.X} },
			point:  func(c int) api.Point { return api.Point{X: c} },
			images: slanted,
		},
		api.D: {
			letter: 'd',
			value:  func(p api.Point) int { return p.Y - p.X },
			mirror: func(c int, p api.Point) api.Point { return api.Point{X: p.Y - c, Y: p.X + c} },
			point:  func(c int) api.Point { return api.Point{Y: c} },
			images: slanted,
		},
	}[k]
}
