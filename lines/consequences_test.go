package lines

import (
	"testing"

	"crimp/api"
)

// These tests are for P1.6: what follows from the other promises.

func TestInverses(t *testing.T) {
	for _, l := range someLines() {
		for _, p := range somePoints() {
			q, e := Reflect(l, p)
			if e != api.OK {
				continue
			}
			if back, e := Reflect(l, q); e != api.OK || back != p {
				t.Errorf("%v, %v: %v, and back %v, %d", l, p, q, back, e)
			}
		}
		for _, of := range someLines() {
			m, e := Image(l, of)
			if e != api.OK {
				continue
			}
			if back, e := Image(l, m); e != api.OK || back != of {
				t.Errorf("%v, %v: %v, and back %v, %d", l, of, m, back, e)
			}
		}
	}
}

func TestSidesOfImages(t *testing.T) {
	for _, l := range someLines() {
		for _, p := range somePoints() {
			if q, e := Reflect(l, p); e == api.OK && Side(l, q) != -Side(l, p) {
				t.Errorf("%v: %v and %v lie on the sides %d and %d", l, p, q, Side(l, p), Side(l, q))
			}
		}
	}
}

func TestTwoReflections(t *testing.T) {
	for k := api.V; k <= api.D; k++ {
		for c := -3; c <= 3; c++ {
			for d := -3; d <= 3; d++ {
				by := 2 * (d - c) // in whole units, straight across; of U and D, half of it along x, and half along y
				want := map[api.LineKind]api.Point{api.V: {X: 2 * by}, api.H: {Y: 2 * by}, api.U: {X: by, Y: by}, api.D: {X: -by, Y: by}}[k]
				for _, p := range []api.Point{{}, {X: 1}, {Y: 1}, {X: 5, Y: -7}} {
					q, _ := Reflect(api.Line{Kind: k, C: c}, p)
					q, _ = Reflect(api.Line{Kind: k, C: d}, q)
					if got := (api.Point{X: q.X - p.X, Y: q.Y - p.Y}); got != want {
						t.Errorf("%d, %d and %d: %v is moved by %v, expected %v", k, c, d, p, got, want)
					}
				}
			}
		}
	}
}

func TestLinesThroughPoints(t *testing.T) {
	for x := -6; x <= 6; x++ {
		for y := -6; y <= 6; y++ {
			n := 0
			slanted := 0
			for k := api.V; k <= api.D; k++ {
				if _, e := Through(k, api.Point{X: x, Y: y}); e == api.OK {
					n++
					if k >= api.U {
						slanted++
					}
				}
			}
			want, wantSlanted := 1, 0
			switch {
			case x%2 == 0 && y%2 == 0:
				want, wantSlanted = 4, 2
			case x%2 != 0 && y%2 != 0:
				want, wantSlanted = 2, 2
			}
			if n != want || slanted != wantSlanted {
				t.Errorf("(%d, %d): %d lines, %d of them slanted", x, y, n, slanted)
			}
		}
	}
}
