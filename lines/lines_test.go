package lines

import (
	"math"
	"testing"

	"crimp/api"
)

// kinds are all kinds of lines, and their letters.
var kinds = map[api.LineKind]string{api.V: "x", api.H: "y", api.U: "u", api.D: "d"}

// badLines are lines that are not valid, and badPoints such points.
var (
	badLines = []api.Line{
		{}, {C: 1}, {Kind: 5}, {Kind: 255, C: 7},
		{Kind: api.V, C: 4097}, {Kind: api.H, C: -4097}, {Kind: api.U, C: math.MaxInt}, {Kind: api.D, C: math.MinInt},
	}
	badPoints = []api.Point{
		{X: 65537}, {X: -65537}, {Y: 65537}, {Y: -65537},
		{X: math.MaxInt}, {X: math.MinInt}, {Y: math.MaxInt}, {Y: math.MinInt}, {X: math.MinInt, Y: math.MaxInt},
	}
)

// value is x, y, x + y or y - x of a point in halves, as the document defines the kinds.
func value(k api.LineKind, p api.Point) int {
	switch k {
	case api.V:
		return p.X
	case api.H:
		return p.Y
	case api.U:
		return p.X + p.Y
	}
	return p.Y - p.X
}

// someLines returns lines of all kinds: near 0, and at the limits.
func someLines() []api.Line {
	var out []api.Line
	for k := api.V; k <= api.D; k++ {
		for _, c := range []int{-4096, -4095, -3, -2, -1, 0, 1, 2, 3, 4095, 4096} {
			out = append(out, api.Line{Kind: k, C: c})
		}
	}
	return out
}

// somePoints returns points near 0, and at the limits.
func somePoints() []api.Point {
	var out []api.Point
	some := []int{-65536, -65535, -5, -4, -3, -2, -1, 0, 1, 2, 3, 4, 5, 49152, 65535, 65536}
	for _, x := range some {
		for _, y := range some {
			out = append(out, api.Point{X: x, Y: y})
		}
	}
	return out
}

func TestCheck(t *testing.T) { // P1.1
	for _, l := range someLines() {
		if e := Check(l); e != api.OK {
			t.Errorf("%v: %d", l, e)
		}
	}
	for _, l := range badLines {
		if e := Check(l); e != api.ErrArg {
			t.Errorf("%v: %d", l, e)
		}
	}
}

func TestCheckPoint(t *testing.T) { // P1.1
	if MaxPoint != 65536 {
		t.Errorf("MaxPoint is %d", MaxPoint)
	}
	for _, p := range somePoints() {
		if e := CheckPoint(p); e != api.OK {
			t.Errorf("%v: %d", p, e)
		}
	}
	for _, p := range badPoints {
		if e := CheckPoint(p); e != api.ErrArg {
			t.Errorf("%v: %d", p, e)
		}
	}
}

func TestSideExamples(t *testing.T) { // P1.2
	for _, x := range []struct {
		l    api.Line
		p    api.Point
		want int
	}{
		{api.Line{Kind: api.V, C: 2}, api.Point{X: 3, Y: 9}, -1},
		{api.Line{Kind: api.V, C: 2}, api.Point{X: 4, Y: 0}, 0},
		{api.Line{Kind: api.V, C: 2}, api.Point{X: 5, Y: 0}, 1},
		{api.Line{Kind: api.H, C: -1}, api.Point{X: 9, Y: -3}, -1},
		{api.Line{Kind: api.H, C: -1}, api.Point{X: 9, Y: -2}, 0},
		{api.Line{Kind: api.H, C: -1}, api.Point{X: 9, Y: -1}, 1},
		{api.Line{Kind: api.U, C: 5}, api.Point{X: 5, Y: 5}, 0},
		{api.Line{Kind: api.U, C: 5}, api.Point{X: 5, Y: 4}, -1},
		{api.Line{Kind: api.U, C: 5}, api.Point{X: 6, Y: 5}, 1},
		{api.Line{Kind: api.D, C: -1}, api.Point{}, 1},
		{api.Line{Kind: api.D, C: -1}, api.Point{X: 2}, 0},
		{api.Line{Kind: api.D, C: -1}, api.Point{X: 3}, -1},
	} {
		if got := Side(x.l, x.p); got != x.want {
			t.Errorf("%v, %v: %d, expected %d", x.l, x.p, got, x.want)
		}
	}
}

func TestSide(t *testing.T) { // P1.2
	for _, l := range someLines() {
		for _, p := range somePoints() {
			want := 0
			if v := value(l.Kind, p); v < 2*l.C {
				want = -1
			} else if v > 2*l.C {
				want = 1
			}
			if got := Side(l, p); got != want {
				t.Errorf("%v, %v: %d, expected %d", l, p, got, want)
			}
		}
	}
	for _, l := range badLines {
		if got := Side(l, api.Point{X: 1, Y: 3}); got != 0 {
			t.Errorf("%v: %d", l, got)
		}
	}
	for _, p := range badPoints {
		for k := api.V; k <= api.D; k++ {
			if got := Side(api.Line{Kind: k}, p); got != 0 {
				t.Errorf("%d, %v: %d", k, p, got)
			}
		}
	}
}

func TestReflectExamples(t *testing.T) { // P1.3
	for k, want := range map[api.LineKind]api.Point{api.V: {X: 7, Y: 3}, api.H: {X: 1, Y: 5}, api.U: {X: 1, Y: 3}, api.D: {X: -1, Y: 5}} {
		if q, e := Reflect(api.Line{Kind: k, C: 2}, api.Point{X: 1, Y: 3}); e != api.OK || q != want {
			t.Errorf("%d: %v, %d", k, q, e)
		}
	}
	if q, e := Reflect(api.Line{Kind: api.V, C: 1}, api.Point{}); e != api.OK || q != (api.Point{X: 4}) {
		t.Errorf("x = 0 in x = 1: %v, %d", q, e)
	}
}

// isMirrored reports whether q is as far from a line as p, on the other side, and straight across.
func isMirrored(l api.Line, p, q api.Point) bool {
	x, y := q.X-p.X, q.Y-p.Y
	across := map[api.LineKind]bool{api.V: y == 0, api.H: x == 0, api.U: x == y, api.D: x == -y}
	return across[l.Kind] && value(l.Kind, p)+value(l.Kind, q) == 4*l.C
}

func TestReflect(t *testing.T) { // P1.3
	for _, l := range someLines() {
		for _, p := range somePoints() {
			q, e := Reflect(l, p)
			switch e {
			case api.OK:
				if !isMirrored(l, p, q) || CheckPoint(q) != api.OK {
					t.Errorf("%v, %v: %v", l, p, q)
				}
			case api.ErrLimit:
				if q != (api.Point{}) {
					t.Errorf("%v, %v: %v with an error", l, p, q)
				}
			default:
				t.Errorf("%v, %v: %d", l, p, e)
			}
		}
	}
}

func TestReflectLimits(t *testing.T) { // P1.3
	for _, x := range []struct {
		l            api.Line
		last, beyond api.Point
	}{
		{api.Line{Kind: api.V, C: 4096}, api.Point{X: -49152, Y: 65536}, api.Point{X: -49153}},
		{api.Line{Kind: api.V, C: -4096}, api.Point{X: 49152}, api.Point{X: 49153}},
		{api.Line{Kind: api.H, C: 4096}, api.Point{Y: -49152}, api.Point{Y: -49153}},
		{api.Line{Kind: api.H, C: -4096}, api.Point{Y: 49152}, api.Point{Y: 49153}},
		{api.Line{Kind: api.U, C: 4096}, api.Point{Y: -57344}, api.Point{Y: -57345}},
		{api.Line{Kind: api.U, C: -4096}, api.Point{X: 57344}, api.Point{X: 57345}},
		{api.Line{Kind: api.D, C: 4096}, api.Point{X: 57344}, api.Point{X: 57345}},
		{api.Line{Kind: api.D, C: -4096}, api.Point{Y: 57344}, api.Point{Y: 57345}},
	} {
		if q, e := Reflect(x.l, x.last); e != api.OK || !isMirrored(x.l, x.last, q) {
			t.Errorf("%v, %v: %v, %d", x.l, x.last, q, e)
		}
		if q, e := Reflect(x.l, x.beyond); e != api.ErrLimit || q != (api.Point{}) {
			t.Errorf("%v, %v: %v, %d", x.l, x.beyond, q, e)
		}
	}
	for _, l := range badLines {
		if q, e := Reflect(l, api.Point{X: 1, Y: 2}); e != api.ErrArg || q != (api.Point{}) {
			t.Errorf("%v: %v, %d", l, q, e)
		}
	}
	for _, p := range badPoints {
		for k := api.V; k <= api.D; k++ {
			if q, e := Reflect(api.Line{Kind: k}, p); e != api.ErrArg || q != (api.Point{}) {
				t.Errorf("%d, %v: %v, %d", k, p, q, e)
			}
		}
	}
}

func TestImageExamples(t *testing.T) { // P1.3
	for _, x := range [][3]string{
		{"u 3", "x 1", "y 2"}, {"u 3", "u 1", "u 5"}, {"u 3", "d 1", "d 1"},
		{"x 1", "u 3", "d 1"}, {"x 1", "d 3", "u 5"},
	} {
		l, _ := Parse(x[0])
		of, _ := Parse(x[1])
		if m, e := Image(l, of); e != api.OK || Text(m) != x[2] {
			t.Errorf("%v: %s, %d", x, Text(m), e)
		}
	}
}

// pointsOn returns two points on a line.
func pointsOn(l api.Line) [2]api.Point {
	switch c := 2 * l.C; l.Kind {
	case api.V:
		return [2]api.Point{{X: c, Y: 1}, {X: c, Y: 8}}
	case api.H:
		return [2]api.Point{{X: 1, Y: c}, {X: 8, Y: c}}
	case api.U:
		return [2]api.Point{{X: 1, Y: c - 1}, {X: 8, Y: c - 8}}
	default:
		return [2]api.Point{{X: 1, Y: c + 1}, {X: 8, Y: c + 8}}
	}
}

func TestImage(t *testing.T) { // P1.3
	for k := api.V; k <= api.D; k++ {
		for of := api.V; of <= api.D; of++ {
			for c := -5; c <= 5; c++ {
				for d := -5; d <= 5; d++ {
					a, b := api.Line{Kind: k, C: c}, api.Line{Kind: of, C: d}
					m, e := Image(a, b)
					if e != api.OK || Check(m) != api.OK {
						t.Fatalf("%v, %v: %v, %d", a, b, m, e)
					}
					for _, p := range pointsOn(b) {
						if q, e := Reflect(a, p); e != api.OK || Side(m, q) != 0 {
							t.Errorf("%v, %v: %v, but %v lies beside it", a, b, m, q)
						}
					}
				}
			}
		}
	}
}

func TestImageLimits(t *testing.T) { // P1.3
	for _, x := range [][3]string{ // of the second line the image is valid, of the third one it is not
		{"x 4096", "x 4096", "x 4095"}, {"y 4096", "y 4096", "y -1"}, {"y -4096", "y -4096", "y -4095"},
		{"u 4096", "u 4096", "u 4095"}, {"d -4096", "d -4096", "d -4095"},
		{"x 4096", "d -4096", "d -4095"}, {"x 1", "u -4094", "u -4095"}, {"y -4096", "u -4096", "u -4095"}, {"y 4096", "d 4096", "d 4095"},
		{"u 4096", "x 0", "x -1"}, {"u -4096", "y 0", "y 1"}, {"d 1", "x 4095", "x 4096"}, {"d -1", "y 4095", "y 4096"},
	} {
		l, _ := Parse(x[0])
		last, _ := Parse(x[1])
		beyond, _ := Parse(x[2])
		if m, e := Image(l, last); e != api.OK || Check(m) != api.OK {
			t.Errorf("%v: %v, %d", x, m, e)
		}
		if m, e := Image(l, beyond); e != api.ErrLimit || m != (api.Line{}) {
			t.Errorf("%v: %v, %d", x, m, e)
		}
	}
	for _, l := range badLines {
		if m, e := Image(l, api.Line{Kind: api.V}); e != api.ErrArg || m != (api.Line{}) {
			t.Errorf("in %v: %v, %d", l, m, e)
		}
		if m, e := Image(api.Line{Kind: api.U}, l); e != api.ErrArg || m != (api.Line{}) {
			t.Errorf("of %v: %v, %d", l, m, e)
		}
	}
}

func TestMeet(t *testing.T) { // P1.4, P1.6
	for _, a := range someLines() {
		for _, b := range someLines() {
			p, e := Meet(a, b)
			switch {
			case a.Kind == b.Kind:
				if e != api.ErrNone || p != (api.Point{}) {
					t.Errorf("%v, %v: %v, %d", a, b, p, e)
				}
			case e != api.OK || CheckPoint(p) != api.OK || value(a.Kind, p) != 2*a.C || value(b.Kind, p) != 2*b.C:
				t.Errorf("%v, %v: %v, %d", a, b, p, e)
			case (p.X+p.Y)%2 != 0:
				t.Errorf("%v, %v: %v, which is neither even nor odd", a, b, p)
			}
		}
	}
	for _, l := range badLines {
		for _, k := range []api.LineKind{api.V, l.Kind} { // ErrArg comes before ErrNone
			other := api.Line{Kind: k}
			if p, e := Meet(l, other); e != api.ErrArg || p != (api.Point{}) {
				t.Errorf("%v, %v: %v, %d", l, other, p, e)
			}
			if p, e := Meet(other, l); e != api.ErrArg || p != (api.Point{}) {
				t.Errorf("%v, %v: %v, %d", other, l, p, e)
			}
		}
	}
}

func TestMeetExamples(t *testing.T) { // P1.4
	for _, x := range []struct {
		a, b string
		want api.Point
	}{{"x 1", "u 4", api.Point{X: 2, Y: 6}}, {"u 3", "d 2", api.Point{X: 1, Y: 5}}, {"d 2", "u 3", api.Point{X: 1, Y: 5}}, {"x -4096", "u 4096", api.Point{X: -8192, Y: 16384}}} {
		a, _ := Parse(x.a)
		b, _ := Parse(x.b)
		if p, e := Meet(a, b); e != api.OK || p != x.want {
			t.Errorf("%s, %s: %v, %d", x.a, x.b, p, e)
		}
	}
}

func TestThrough(t *testing.T) { // P1.4
	for k := api.V; k <= api.D; k++ {
		for _, p := range somePoints() {
			v := value(k, p)
			l, e := Through(k, p)
			switch {
			case v%2 != 0:
				if e != api.ErrNone || l != (api.Line{}) {
					t.Errorf("%d, %v: %v, %d", k, p, l, e)
				}
			case v < -8192 || v > 8192:
				if e != api.ErrLimit || l != (api.Line{}) {
					t.Errorf("%d, %v: %v, %d", k, p, l, e)
				}
			case e != api.OK || l != (api.Line{Kind: k, C: v / 2}) || Side(l, p) != 0:
				t.Errorf("%d, %v: %v, %d", k, p, l, e)
			}
		}
	}
}

func TestThroughLimits(t *testing.T) { // P1.4
	for _, x := range []struct {
		k    api.LineKind
		p    api.Point
		want api.Line
		e    api.Errno
	}{
		{api.V, api.Point{X: 3}, api.Line{}, api.ErrNone},
		{api.U, api.Point{X: 3, Y: 1}, api.Line{Kind: api.U, C: 2}, api.OK},
		{api.D, api.Point{X: 3, Y: 1}, api.Line{Kind: api.D, C: -1}, api.OK},
		{api.V, api.Point{X: 8192}, api.Line{Kind: api.V, C: 4096}, api.OK},
		{api.V, api.Point{X: 8193}, api.Line{}, api.ErrNone},
		{api.V, api.Point{X: 8194}, api.Line{}, api.ErrLimit},
		{api.H, api.Point{Y: -8192}, api.Line{Kind: api.H, C: -4096}, api.OK},
		{api.H, api.Point{Y: -8194}, api.Line{}, api.ErrLimit},
		{api.U, api.Point{X: 4097, Y: 4095}, api.Line{Kind: api.U, C: 4096}, api.OK},
		{api.U, api.Point{X: 4097, Y: 4097}, api.Line{}, api.ErrLimit},
		{api.D, api.Point{X: 4096, Y: -4096}, api.Line{Kind: api.D, C: -4096}, api.OK},
		{api.D, api.Point{X: 4097, Y: -4097}, api.Line{}, api.ErrLimit},
		{0, api.Point{}, api.Line{}, api.ErrArg},
		{5, api.Point{}, api.Line{}, api.ErrArg},
		{255, api.Point{X: 1}, api.Line{}, api.ErrArg},
	} {
		if l, e := Through(x.k, x.p); e != x.e || l != x.want {
			t.Errorf("%d, %v: %v, %d", x.k, x.p, l, e)
		}
	}
	for _, p := range badPoints {
		for k := api.V; k <= api.D; k++ {
			if l, e := Through(k, p); e != api.ErrArg || l != (api.Line{}) {
				t.Errorf("%d, %v: %v, %d", k, p, l, e)
			}
		}
	}
}
