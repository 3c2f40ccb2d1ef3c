package places

import (
	"slices"
	"testing"

	"crimp/api"
	"crimp/cells"
	"crimp/corners"
	"crimp/faces"
	"crimp/moves"
	"crimp/patterns"
	"crimp/sheets"
)

// These tests are for P10.5: what follows from the other promises.

func TestTearsExactlyIfACornerIsOpen(t *testing.T) {
	tears, flat := 0, 0
	for _, p := range slices.Concat(somePatterns(), allPatterns(), aroundMiddle()) {
		_, open, e := Open(p)
		_, f := Places(p, moves.Identity())
		if open {
			tears++
			if e != api.OK || f != api.ErrTear {
				t.Errorf("%v: a corner is open, %d, and Places returns %d", p, e, f)
			}
			continue
		}
		flat++
		if e != api.OK || f != api.OK {
			t.Errorf("%v: all corners close, %d, and Places returns %d", p, e, f)
		}
	}
	if tears < 1000 || flat < 200 {
		t.Errorf("%d patterns tear, and %d do not", tears, flat)
	}
}

func TestAnglesTellWhatCloses(t *testing.T) {
	for _, p := range aroundMiddle() {
		for _, at := range cornersOf(four) {
			angles, e := corners.Angles(p, at)
			sum := 0
			for i := 0; i < len(angles); i += 2 {
				sum += angles[i]
			}
			want := len(angles) == 0 || len(angles)%2 == 0 && sum == 4
			if got, f := Closes(p, at); e != api.OK || f != api.OK || got != want {
				t.Errorf("%v at %v: %t, %d, and the angles %v, %d", p, at, got, f, angles, e)
			}
		}
	}
}

func TestFaces(t *testing.T) {
	for _, p := range flatPatterns() {
		if loose, e := faces.Loose(p); e != api.OK || loose {
			t.Errorf("%v: a crease ends within a face: %t, %d", p, loose, e)
		}
		face, _ := faces.Of(p)
		places, e := Places(p, moves.Identity())
		if e != api.OK {
			t.Fatalf("%v: %d", p, e)
		}
		of := map[int]moves.Move{}
		for id, place := range places {
			if first, is := of[face[id]]; is && first != place {
				t.Errorf("%v: %v and %v are places of the face %d", p, first, place, face[id])
			}
			of[face[id]] = place
		}
	}
}

func TestNeighbours(t *testing.T) {
	for _, p := range flatPatterns() {
		images, e := Images(p, moves.Identity())
		up, f := Up(p, moves.Identity())
		if e != api.OK || f != api.OK {
			t.Fatalf("%v: %d, %d", p, e, f)
		}
		creased := map[sheets.Unit]bool{}
		for _, c := range p.Creases {
			creased[sheets.Unit{Cell: c.Cell, Edge: c.Edge}] = true
		}
		units, _ := sheets.Units(p.Sheet)
		for _, u := range units {
			a := u.Cell
			b, _ := sheets.Neighbour(p.Sheet, a, u.Edge)
			_, touch := cells.Touch(images[a], images[b])
			if creased[u] && (images[a] != images[b] || up[a] == up[b]) {
				t.Errorf("%v: there is a crease between %d and %d, with the images %v and %v", p, a, b, images[a], images[b])
			}
			if !creased[u] && (touch != api.OK || up[a] != up[b]) {
				t.Errorf("%v: there is no crease between %d and %d, with the images %v and %v", p, a, b, images[a], images[b])
			}
		}
	}
}

func TestOtherRoots(t *testing.T) {
	for _, x := range foldedSheets() {
		flat, _ := Places(x.p, moves.Identity())
		depth, _ := Depth(x.p, moves.Identity())
		for _, root := range someRoots {
			places, e := Places(x.p, root)
			if e != api.OK {
				t.Fatalf("%v, %v: %d", x.p, root, e)
			}
			for id, place := range places {
				if want, f := moves.Then(flat[id], root); f != api.OK || place != want {
					t.Fatalf("%v, %v: the place of %d is %v, expected %v", x.p, root, id, place, want)
				}
			}
			if got, e := Depth(x.p, root); e != api.OK || got != depth {
				t.Errorf("%v, %v: depth %d, %d, expected %d", x.p, root, got, e, depth)
			}
		}
	}
}

func TestKindsDoNotMatter(t *testing.T) {
	for i, p := range slices.Concat(somePatterns(), aroundMiddle()) {
		root := someRoots[i%len(someRoots)]
		q := patterns.Pattern{Sheet: p.Sheet, Creases: slices.Clone(p.Creases)}
		for j := range q.Creases {
			q.Creases[j].Kind = 1 + (q.Creases[j].Kind+api.Kind(i))%3
		}
		a, e := Places(p, root)
		b, f := Places(q, root)
		if e != f || !slices.Equal(a, b) {
			t.Errorf("%v: %v, %d, and with other kinds %v, %d", p, a, e, b, f)
		}
		at, open, e := Open(p)
		other, is, f := Open(q)
		if e != f || at != other || open != is {
			t.Errorf("%v: %v, %t, %d, and with other kinds %v, %t, %d", p, at, open, e, other, is, f)
		}
	}
}
