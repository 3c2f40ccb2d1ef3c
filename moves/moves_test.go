package moves

import (
	"math"
	"testing"

	"crimp/api"
	"crimp/lines"
)

// badMoves are moves that are not valid: by their Turn, by their limits, and because X + Y is odd.
var badMoves = []Move{
	{Turn: 8}, {Turn: 9}, {Turn: 12}, {Turn: 255},
	{X: 16385, Y: 1}, {X: 16386}, {X: -16386}, {Y: 16386}, {Y: -16386}, {Turn: 7, X: 16386, Y: 16386},
	{X: 1}, {Y: -1}, {Turn: 5, X: 16384, Y: 16383}, {Turn: 3, X: 2, Y: -5},
	{X: math.MaxInt}, {X: math.MinInt}, {Y: math.MaxInt}, {Y: math.MinInt},
	{X: math.MaxInt, Y: math.MaxInt}, {X: math.MinInt, Y: math.MinInt}, {X: math.MaxInt, Y: -math.MaxInt}, {X: 1 << 32}, {Y: 1 << 32},
}

// badLines and badPoints are such as layer 1 does not accept.
var (
	badLines  = []api.Line{{}, {Kind: 5}, {Kind: 255, C: 1}, {Kind: api.V, C: 4097}, {Kind: api.H, C: -4097}, {Kind: api.U, C: math.MinInt}, {Kind: api.D, C: math.MaxInt}}
	badPoints = []api.Point{{X: 65537}, {X: -65537}, {Y: 65537}, {Y: -65537}, {X: math.MaxInt}, {Y: math.MinInt}}
)

// shifts are X and Y of valid moves: near 0, and at the limits.
var shifts = [][2]int{
	{0, 0}, {1, 1}, {2, 0}, {0, -2}, {-3, 5}, {-4, -6}, {7, -1},
	{16384, 16384}, {-16384, 16384}, {16384, 0}, {0, -16384}, {16383, -16383}, {-16383, 1},
}

// someMoves returns moves of all turns, by the shifts.
func someMoves() []Move {
	var out []Move
	for turn := range uint8(8) {
		for _, s := range shifts {
			out = append(out, Move{Turn: turn, X: s[0], Y: s[1]})
		}
	}
	return out
}

// someLines returns lines of all kinds: near 0, and at the limits.
func someLines() []api.Line {
	var out []api.Line
	for k := api.V; k <= api.D; k++ {
		for _, c := range []int{-4096, -4095, -2, -1, 0, 1, 2, 3, 4096} {
			out = append(out, api.Line{Kind: k, C: c})
		}
	}
	return out
}

// somePoints returns points near 0, and at the limits.
func somePoints() []api.Point {
	var out []api.Point
	some := []int{-65536, -32768, -5, -2, -1, 0, 1, 2, 4, 32767, 65536}
	for _, x := range some {
		for _, y := range some {
			out = append(out, api.Point{X: x, Y: y})
		}
	}
	return out
}

// turned is T(x, y), as the document's table has it.
func turned(turn uint8, x, y int) (int, int) {
	switch turn {
	case 0:
		return x, y
	case 1:
		return -y, x
	case 2:
		return -x, -y
	case 3:
		return y, -x
	case 4:
		return -x, y
	case 5:
		return -y, -x
	case 6:
		return x, -y
	}
	return y, x
}

// moved is where a move takes a point in halves, by the document's definition.
func moved(m Move, p api.Point) api.Point {
	x, y := turned(m.Turn, p.X, p.Y)
	return api.Point{X: x + 2*m.X, Y: y + 2*m.Y}
}

// threePoints are points in halves that no two moves take to the same places.
var threePoints = [3]api.Point{{}, {X: 2}, {Y: 2}}

func TestCheck(t *testing.T) { // P2.1
	if MaxMove != 16384 {
		t.Errorf("MaxMove is %d", MaxMove)
	}
	for _, m := range someMoves() {
		if e := Check(m); e != api.OK {
			t.Errorf("%v: %d", m, e)
		}
	}
	for _, m := range badMoves {
		if e := Check(m); e != api.ErrArg {
			t.Errorf("%v: %d", m, e)
		}
	}
}

func TestIdentity(t *testing.T) { // P2.1
	if m := Identity(); m != (Move{Turn: 0, X: 0, Y: 0}) {
		t.Errorf("%v", m)
	}
}

func TestFlips(t *testing.T) { // P2.1
	for _, m := range someMoves() {
		if got := Flips(m); got != (m.Turn >= 4) {
			t.Errorf("%v: %t", m, got)
		}
	}
	for _, bad := range badMoves {
		for turn := range uint8(9) { // also with turns that flip
			m := Move{Turn: max(turn, bad.Turn), X: bad.X, Y: bad.Y}
			if Check(m) != api.OK && Flips(m) {
				t.Errorf("%v flips", m)
			}
		}
	}
}

func TestOfExamples(t *testing.T) { // P2.2
	for _, x := range [][2]string{
		{"x 3", "4 6 0"}, {"y 3", "6 0 6"}, {"u 3", "5 3 3"}, {"d 3", "7 -3 3"},
		{"x 0", "4 0 0"}, {"y -2", "6 0 -4"}, {"u -1", "5 -1 -1"}, {"d -5", "7 5 -5"},
		{"x 4096", "4 8192 0"}, {"y -4096", "6 0 -8192"}, {"u 4096", "5 4096 4096"}, {"d -4096", "7 4096 -4096"},
	} {
		l, _ := lines.Parse(x[0])
		if m, e := Of(l); e != api.OK || Text(m) != x[1] {
			t.Errorf("%s: %v, %d, expected %s", x[0], m, e, x[1])
		}
	}
}

func TestOf(t *testing.T) { // P2.2
	for _, l := range someLines() {
		m, e := Of(l)
		if e != api.OK || Check(m) != api.OK {
			t.Fatalf("%v: %v, %d", l, m, e)
		}
		for _, p := range somePoints() {
			if q, e := lines.Reflect(l, p); e == api.OK && moved(m, p) != q {
				t.Errorf("%v: %v takes %v to %v, expected %v", l, m, p, moved(m, p), q)
			}
		}
	}
	for _, l := range badLines {
		if m, e := Of(l); e != api.ErrArg || m != (Move{}) {
			t.Errorf("%v: %v, %d", l, m, e)
		}
	}
}

func TestThenExamples(t *testing.T) { // P2.3
	for _, x := range []struct{ first, second, want string }{
		{"x 0", "x 2", "0 4 0"}, {"x 0", "y 0", "2 0 0"}, {"x 0", "u 0", "1 0 0"}, {"u 0", "x 0", "3 0 0"},
	} {
		a, _ := lines.Parse(x.first)
		b, _ := lines.Parse(x.second)
		first, _ := Of(a)
		second, _ := Of(b)
		if m, e := Then(first, second); e != api.OK || Text(m) != x.want {
			t.Errorf("%s, %s: %v, %d, expected %s", x.first, x.second, m, e, x.want)
		}
	}
}

// isValidShift reports whether X and Y, which may be any, are those of a valid move; X + Y is even.
func isValidShift(x, y int) bool {
	return -16384 <= x && x <= 16384 && -16384 <= y && y <= 16384
}

func TestThen(t *testing.T) { // P2.3
	for _, first := range someMoves() {
		for _, second := range someMoves() {
			m, e := Then(first, second)
			x, y := turned(second.Turn, first.X, first.Y)
			x, y = x+second.X, y+second.Y
			if !isValidShift(x, y) {
				if e != api.ErrLimit || m != (Move{}) {
					t.Errorf("%v, %v: %v, %d", first, second, m, e)
				}
				continue
			}
			if e != api.OK || Check(m) != api.OK || m.X != x || m.Y != y {
				t.Fatalf("%v, %v: %v, %d", first, second, m, e)
			}
			for _, p := range threePoints {
				if got, want := moved(m, p), moved(second, moved(first, p)); got != want {
					t.Errorf("%v, %v: %v takes %v to %v, expected %v", first, second, m, p, got, want)
				}
			}
		}
	}
}

func TestThenErrors(t *testing.T) { // P2.3
	for _, x := range []struct {
		first, second Move
		e             api.Errno
	}{
		{Move{X: 16384}, Move{X: 2}, api.ErrLimit},
		{Move{X: 16384}, Move{X: 1}, api.ErrArg}, // not ErrLimit
		{Move{X: 16384}, Move{X: -2}, api.OK},
		{Move{X: 16384}, Move{Turn: 4, X: -2}, api.ErrLimit},
		{Move{X: 16384}, Move{Turn: 4, X: 2}, api.OK},
		{Move{X: 16384}, Move{Turn: 1, Y: 2}, api.ErrLimit},
		{Move{X: 16384}, Move{Turn: 1, X: 2}, api.OK},
		{Move{X: 16383, Y: 1}, Move{X: 1, Y: 1}, api.OK},
		{Move{X: 16383, Y: 16383}, Move{X: 1, Y: 3}, api.ErrLimit},
		{Move{Y: -16384}, Move{X: 1, Y: -1}, api.ErrLimit},
	} {
		if m, e := Then(x.first, x.second); e != x.e || e != api.OK && m != (Move{}) {
			t.Errorf("%v, %v: %v, %d, expected %d", x.first, x.second, m, e, x.e)
		}
	}
	for _, bad := range badMoves {
		for _, good := range []Move{{}, {Turn: 1, X: 16384}, {Turn: 6, X: 2}} {
			if m, e := Then(bad, good); e != api.ErrArg || m != (Move{}) {
				t.Errorf("%v, %v: %v, %d", bad, good, m, e)
			}
			if m, e := Then(good, bad); e != api.ErrArg || m != (Move{}) {
				t.Errorf("%v, %v: %v, %d", good, bad, m, e)
			}
		}
		if m, e := Then(bad, bad); e != api.ErrArg || m != (Move{}) {
			t.Errorf("%v twice: %v, %d", bad, m, e)
		}
	}
}

func TestInverse(t *testing.T) { // P2.3
	if m, e := Inverse(Move{Turn: 1, X: 2, Y: 4}); e != api.OK || m != (Move{Turn: 3, X: -4, Y: 2}) {
		t.Errorf("1 2 4: %v, %d", m, e)
	}
	for _, m := range someMoves() { // a turn keeps the greater one of X and Y, so that there is no ErrLimit
		back, e := Inverse(m)
		if e != api.OK || Check(back) != api.OK {
			t.Fatalf("%v: %v, %d", m, back, e)
		}
		for _, p := range threePoints {
			if q := moved(back, moved(m, p)); q != p {
				t.Errorf("%v: %v takes %v to %v", m, back, moved(m, p), q)
			}
		}
	}
	for _, bad := range badMoves {
		if m, e := Inverse(bad); e != api.ErrArg || m != (Move{}) {
			t.Errorf("%v: %v, %d", bad, m, e)
		}
	}
}

func TestPoint(t *testing.T) { // P2.4
	if q, e := Point(Move{Turn: 1, X: 2, Y: 4}, api.Point{X: 3, Y: 1}); e != api.OK || q != (api.Point{X: 3, Y: 11}) {
		t.Errorf("1 2 4 and (3, 1): %v, %d", q, e)
	}
	for _, m := range someMoves() {
		for _, p := range somePoints() {
			q, e := Point(m, p)
			want := moved(m, p)
			if lines.CheckPoint(want) != api.OK {
				if e != api.ErrLimit || q != (api.Point{}) {
					t.Errorf("%v, %v: %v, %d", m, p, q, e)
				}
			} else if e != api.OK || q != want {
				t.Errorf("%v, %v: %v, %d, expected %v", m, p, q, e, want)
			}
		}
	}
}

func TestPointErrors(t *testing.T) { // P2.4
	for _, x := range []struct {
		m    Move
		p, q api.Point
		e    api.Errno
	}{
		{Move{X: 16384}, api.Point{X: 32768}, api.Point{X: 65536}, api.OK},
		{Move{X: 16384}, api.Point{X: 32769}, api.Point{}, api.ErrLimit},
		{Move{Turn: 3, Y: -16384}, api.Point{X: 32768, Y: 65536}, api.Point{X: 65536, Y: -65536}, api.OK},
		{Move{Turn: 3, Y: -16384}, api.Point{X: 32769, Y: 65536}, api.Point{}, api.ErrLimit},
	} {
		if q, e := Point(x.m, x.p); e != x.e || q != x.q {
			t.Errorf("%v, %v: %v, %d", x.m, x.p, q, e)
		}
	}
	for _, bad := range badMoves {
		for _, p := range []api.Point{{}, {X: 3, Y: 1}, {X: 65536, Y: -65536}} {
			if q, e := Point(bad, p); e != api.ErrArg || q != (api.Point{}) {
				t.Errorf("%v, %v: %v, %d", bad, p, q, e)
			}
		}
	}
	for _, bad := range badPoints {
		for turn := range uint8(8) {
			if q, e := Point(Move{Turn: turn, X: -2, Y: 2}, bad); e != api.ErrArg || q != (api.Point{}) {
				t.Errorf("%d, %v: %v, %d", turn, bad, q, e)
			}
		}
	}
}
