package moves

import (
	"testing"

	"crimp/api"
	"crimp/lines"
)

// These tests are for P2.6: what follows from the other promises.

// then is Then, for moves whose product is valid.
func then(t *testing.T, first, second Move) Move {
	t.Helper()
	m, e := Then(first, second)
	if e != api.OK {
		t.Fatalf("%v, %v: %d", first, second, e)
	}
	return m
}

func TestAssociative(t *testing.T) {
	var near []Move // so that all products are valid
	for turn := range uint8(8) {
		near = append(near, Move{Turn: turn}, Move{Turn: turn, X: 3, Y: -1}, Move{Turn: turn, X: 4000, Y: 5002})
	}
	for _, a := range near {
		for _, b := range near {
			for _, c := range near {
				if left, right := then(t, then(t, a, b), c), then(t, a, then(t, b, c)); left != right {
					t.Errorf("%v, %v, %v: %v and %v", a, b, c, left, right)
				}
			}
		}
	}
}

func TestIdentityAndInverse(t *testing.T) {
	id := Identity()
	for _, m := range someMoves() {
		if then(t, m, id) != m || then(t, id, m) != m {
			t.Errorf("%v: the identity changes it", m)
		}
		back, e := Inverse(m)
		if e != api.OK || then(t, m, back) != id || then(t, back, m) != id {
			t.Errorf("%v: %v, %d", m, back, e)
		}
		if again, e := Inverse(back); e != api.OK || again != m {
			t.Errorf("%v: %v, and back %v, %d", m, back, again, e)
		}
	}
	for _, p := range somePoints() {
		if q, e := Point(id, p); e != api.OK || q != p {
			t.Errorf("%v: %v, %d", p, q, e)
		}
	}
	for _, l := range someLines() {
		if image, e := Line(id, l); e != api.OK || image != l {
			t.Errorf("%v: %v, %d", l, image, e)
		}
	}
}

func TestPointOfThen(t *testing.T) {
	for _, a := range someMoves() {
		for _, b := range someMoves() {
			both, e := Then(a, b)
			if e != api.OK {
				continue
			}
			if Flips(both) != (Flips(a) != Flips(b)) {
				t.Errorf("%v, %v: %v", a, b, both)
			}
			for _, p := range somePoints() {
				q, e := Point(a, p)
				r, f := Point(b, q)
				once, g := Point(both, p)
				if e == api.OK && f == api.OK && (g != api.OK || once != r) {
					t.Errorf("%v, %v: %v goes to %v, or at once to %v, %d", a, b, p, r, once, g)
				}
			}
		}
	}
}

func TestDistances(t *testing.T) {
	far := func(p, q api.Point) int { return (p.X-q.X)*(p.X-q.X) + (p.Y-q.Y)*(p.Y-q.Y) }
	for _, m := range someMoves() {
		for _, p := range somePoints() {
			to, e := Point(m, p)
			if e != api.OK {
				continue
			}
			if oddOf(to) != oddOf(p) {
				t.Errorf("%v: %v goes to %v", m, p, to)
			}
			for _, q := range []api.Point{{}, {X: 1}, {X: -3, Y: 4}} {
				if other, e := Point(m, q); e == api.OK && far(to, other) != far(p, q) {
					t.Errorf("%v: %v and %v go to %v and %v", m, p, q, to, other)
				}
			}
		}
	}
}

// oddOf counts the odd coordinates of a point.
func oddOf(p api.Point) int { return p.X&1 + p.Y&1 }

func TestReflectionInImage(t *testing.T) {
	for turn := range uint8(8) {
		for _, shift := range [][2]int{{0, 0}, {1, 1}, {-3, 5}, {40, -2000}} {
			m := Move{Turn: turn, X: shift[0], Y: shift[1]}
			back, _ := Inverse(m)
			for k := api.V; k <= api.D; k++ {
				for _, c := range []int{-2000, -1, 0, 1, 2, 7} {
					l := api.Line{Kind: k, C: c}
					image, e := Line(m, l)
					if e != api.OK {
						t.Fatalf("%v, %v: %d", m, l, e)
					}
					in, _ := Of(l)
					want, _ := Of(image)
					if got := then(t, then(t, back, in), m); got != want {
						t.Errorf("%v, %v: %v, expected %v", m, l, got, want)
					}
				}
			}
		}
	}
}

// inLines returns the product of the reflections in lines with these texts.
func inLines(t *testing.T, texts ...string) Move {
	t.Helper()
	m := Identity()
	for _, s := range texts {
		l, e := lines.Parse(s)
		r, f := Of(l)
		if e != api.OK || f != api.OK {
			t.Fatalf("%s: %d, %d", s, e, f)
		}
		m = then(t, m, r)
	}
	return m
}

// along moves m by n times the shift of two reflections in lines of a kind, whose C differ by 1.
func along(t *testing.T, m Move, k api.LineKind, n int) Move {
	t.Helper()
	for n != 0 {
		c := max(-api.MaxC, min(n, api.MaxC))
		first, _ := Of(api.Line{Kind: k})
		second, _ := Of(api.Line{Kind: k, C: c})
		m = then(t, m, then(t, first, second))
		n -= c
	}
	return m
}

func TestProductsOfReflections(t *testing.T) {
	turns := [8][]string{nil, {"x 0", "u 0"}, {"x 0", "y 0"}, {"u 0", "x 0"}, {"x 0"}, {"u 0"}, {"y 0"}, {"d 0"}}
	for _, want := range someMoves() {
		m := inLines(t, turns[want.Turn]...)
		m = along(t, m, api.U, (want.X+want.Y)/2)
		m = along(t, m, api.D, (want.Y-want.X)/2)
		if m != want {
			t.Errorf("%v, expected %v", m, want)
		}
	}
}
