package moves

import (
	"testing"

	"crimp/api"
	"crimp/lines"
)

func TestLineExamples(t *testing.T) { // P2.4
	for _, x := range [][3]string{
		{"1 2 4", "x 1", "y 5"}, {"1 2 4", "u 1", "d 3"},
		{"0 2 4", "y 1", "y 5"}, {"0 2 4", "d 1", "d 3"}, {"7 2 4", "d 1", "d 1"}, {"4 2 4", "d -3", "u 3"}, {"6 0 0", "d 2", "u -2"},
	} {
		m, _ := Parse(x[0])
		l, _ := lines.Parse(x[1])
		if image, e := Line(m, l); e != api.OK || lines.Text(image) != x[2] {
			t.Errorf("%v: %v, %d", x, image, e)
		}
	}
}

// pointsOn returns two points of a line.
func pointsOn(l api.Line) [2]api.Point {
	switch c := 2 * l.C; l.Kind {
	case api.V:
		return [2]api.Point{{X: c, Y: 0}, {X: c, Y: 5}}
	case api.H:
		return [2]api.Point{{X: 0, Y: c}, {X: 5, Y: c}}
	case api.U:
		return [2]api.Point{{X: 0, Y: c}, {X: 5, Y: c - 5}}
	default:
		return [2]api.Point{{X: 0, Y: c}, {X: 5, Y: c + 5}}
	}
}

// imageOf returns the line through the images of two points of a line; its C may be too great. The line and the move are valid.
func imageOf(m Move, l api.Line) api.Line {
	ends := pointsOn(l)
	p, q := moved(m, ends[0]), moved(m, ends[1])
	switch {
	case p.X == q.X:
		return api.Line{Kind: api.V, C: p.X / 2}
	case p.Y == q.Y:
		return api.Line{Kind: api.H, C: p.Y / 2}
	case p.X+p.Y == q.X+q.Y:
		return api.Line{Kind: api.U, C: (p.X + p.Y) / 2}
	}
	return api.Line{Kind: api.D, C: (p.Y - p.X) / 2}
}

func TestLine(t *testing.T) { // P2.4
	for _, m := range someMoves() {
		for _, l := range someLines() {
			image, e := Line(m, l)
			want := imageOf(m, l)
			if want.C < -4096 || want.C > 4096 {
				if e != api.ErrLimit || image != (api.Line{}) {
					t.Errorf("%v, %v: %v, %d", m, l, image, e)
				}
			} else if e != api.OK || image != want {
				t.Errorf("%v, %v: %v, %d, expected %v", m, l, image, e, want)
			}
		}
	}
}

func TestLineErrors(t *testing.T) { // P2.4
	for _, x := range []struct {
		m, l string
		want string // empty if there is an error
	}{
		{"0 16384 0", "x 0", ""}, {"0 16384 0", "y 0", "y 0"}, {"0 16384 16384", "d 7", "d 7"}, {"0 16384 -16384", "u 7", "u 7"}, {"0 16384 16384", "u -4096", ""},
		{"0 2 0", "x 4094", "x 4096"}, {"0 2 0", "x 4095", ""}, {"0 -2 0", "x -4095", ""}, {"2 2 0", "x -4095", ""}, {"2 2 0", "x -4094", "x 4096"},
		{"1 2 0", "y -4094", "x 4096"}, {"1 2 0", "y -4095", ""}, {"1 0 2", "x 4095", ""}, {"0 1 1", "u 4094", "u 4096"}, {"0 1 1", "u 4095", ""}, {"0 1 -1", "d -4095", ""},
	} {
		m, _ := Parse(x.m)
		l, _ := lines.Parse(x.l)
		e := api.OK
		if x.want == "" {
			e = api.ErrLimit
		}
		if image, f := Line(m, l); f != e || lines.Text(image) != x.want {
			t.Errorf("%v: %v, %d", x, image, f)
		}
	}
	for _, bad := range badMoves {
		for _, l := range someLines() {
			if image, e := Line(bad, l); e != api.ErrArg || image != (api.Line{}) {
				t.Errorf("%v, %v: %v, %d", bad, l, image, e)
			}
		}
	}
	for _, bad := range badLines {
		for turn := range uint8(8) {
			if image, e := Line(Move{Turn: turn, X: 1, Y: 3}, bad); e != api.ErrArg || image != (api.Line{}) {
				t.Errorf("%d, %v: %v, %d", turn, bad, image, e)
			}
		}
	}
}
