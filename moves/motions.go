package moves

import "crimp/api"

// turns has, by Turn, the factors of x and y in the x, and in the y, of T(x, y).
var turns = [8][2][2]int{
	{{1, 0}, {0, 1}},   // (x, y)
	{{0, -1}, {1, 0}},  // (-y, x)
	{{-1, 0}, {0, -1}}, // (-x, -y)
	{{0, 1}, {-1, 0}},  // (y, -x)
	{{-1, 0}, {0, 1}},  // (-x, y)
	{{0, -1}, {-1, 0}}, // (-y, -x)
	{{1, 0}, {0, -1}},  // (x, -y)
	{{0, 1}, {1, 0}},   // (y, x)
}

// quarters is how many turns do not flip: those by 0, 1, 2 and 3 quarters of a full turn, which come first.
const quarters = 4

// A motion takes points to where they go.
type motion func(p api.Point) api.Point

// take returns where a move takes a point that is in the same unit as X and Y of the move.
func (m Move) take(p api.Point) api.Point {
	t := turns[m.Turn]
	return api.Point{
		X: t[0][0]*p.X + t[0][1]*p.Y + m.X,
		Y: t[1][0]*p.X + t[1][1]*p.Y + m.Y,
	}
}

// inHalves returns what a move does to points in halves, while X and Y of the move are in whole units.
func inHalves(m Move) motion {
	return Move{Turn: m.Turn, X: 2 * m.X, Y: 2 * m.Y}.take
}

// chain returns the move that does motions, one after another. Three points tell it.
func chain(motions ...motion) Move {
	origin, right, up := api.Point{}, api.Point{X: 1}, api.Point{Y: 1}
	for _, take := range motions {
		origin, right, up = take(origin), take(right), take(up)
	}
	turn := turnOf([2][2]int{
		{right.X - origin.X, up.X - origin.X},
		{right.Y - origin.Y, up.Y - origin.Y},
	})
	return Move{Turn: turn, X: origin.X, Y: origin.Y}
}

// turnOf returns the Turn that has these factors.
func turnOf(factors [2][2]int) uint8 {
	for t, f := range turns {
		if f == factors {
			return uint8(t)
		}
	}
	return 0 // does not happen: one turn after another is a turn again
}

// turnBack returns the Turn that takes another one back.
func turnBack(turn uint8) uint8 {
	if turn >= quarters {
		return turn // it is a reflection
	}
	return (quarters - turn) % quarters
}
