package corners

import (
	"math/rand"
	"slices"
	"strings"
	"testing"

	"crimp/api"
	"crimp/patterns"
	"crimp/segments"
	"crimp/sheets"
)

// crease returns a crease of the kind Any.
func crease(cell int, edge uint8) patterns.Crease {
	return patterns.Crease{Cell: cell, Edge: edge, Kind: api.Any}
}

// chosen returns the pattern of a sheet with a crease on each unit for which choose returns a kind.
func chosen(s sheets.Sheet, choose func() api.Kind) patterns.Pattern {
	p := patterns.Pattern{Sheet: s}
	units, _ := sheets.Units(s)
	for _, u := range units {
		if k := choose(); k != 0 {
			p.Creases = append(p.Creases, patterns.Crease{Cell: u.Cell, Edge: u.Edge, Kind: k})
		}
	}
	return p
}

// every returns the pattern in which all units are creases of a kind.
func every(s sheets.Sheet, k api.Kind) patterns.Pattern {
	return chosen(s, func() api.Kind { return k })
}

// somePatterns returns patterns without creases, with some, and with all.
func somePatterns() []patterns.Pattern {
	r := rand.New(rand.NewSource(9))
	out := []patterns.Pattern{{Sheet: four, Creases: []patterns.Crease{}}}
	for _, s := range someSheets {
		out = append(out, patterns.Pattern{Sheet: s}, every(s, api.Mountain))
		for part := 1; part <= 9; part++ {
			for range max(1, 20/(s.W*s.H)) {
				out = append(out, chosen(s, func() api.Kind {
					if r.Intn(10) < part {
						return api.Kind(1 + r.Intn(3))
					}
					return 0
				}))
			}
		}
	}
	return out
}

// pattern returns the pattern of a sheet with the segments whose texts stand in l, divided by semicolons.
func pattern(t *testing.T, s sheets.Sheet, l string) patterns.Pattern {
	t.Helper()
	var out []segments.Segment
	for w := range strings.SplitSeq(l, "; ") {
		if w == "" {
			continue
		}
		x, e := segments.Parse(w)
		if e != api.OK {
			t.Fatalf("%q: %d", w, e)
		}
		out = append(out, x)
	}
	p, i, e := segments.Pattern(s, out)
	if e != api.OK {
		t.Fatalf("%s: %d, %d", l, i, e)
	}
	return p
}

// ray returns a segment on the unit that leaves a point in a direction.
func ray(at api.Point, dir int, k api.Kind) segments.Segment {
	out := segments.Segment{Kind: k}
	length, place := 1, at.X
	switch dir % 4 {
	case 0:
		out.Line, length = api.Line{Kind: api.H, C: at.Y / 2}, 2
	case 1:
		out.Line = api.Line{Kind: api.D, C: (at.Y - at.X) / 2}
	case 2:
		out.Line, length, place = api.Line{Kind: api.V, C: at.X / 2}, 2, at.Y
	case 3:
		out.Line = api.Line{Kind: api.U, C: (at.X + at.Y) / 2}
	}
	out.From, out.To = place, place+length
	if 3 <= dir && dir <= 6 { // to the left or down
		out.From, out.To = place-length, place
	}
	return out
}

// unitsAt returns the units that leave a corner, by their directions.
func unitsAt(t *testing.T, s sheets.Sheet, at api.Point) map[int]sheets.Unit {
	t.Helper()
	out := map[int]sheets.Unit{}
	for dir := range 8 {
		if at.X%2 == 1 && dir%2 == 0 {
			continue
		}
		l, e := segments.Units(s, ray(at, dir, api.Any))
		if e != api.OK || len(l) != 1 {
			t.Fatalf("%v, %v: %d units in the direction %d, %d", s, at, len(l), dir, e)
		}
		out[dir] = l[0]
	}
	return out
}

// checkRays checks what the functions return for a corner where creases of these kinds leave, by their directions; 0 for none.
func checkRays(t *testing.T, p patterns.Pattern, at api.Point, kinds [8]api.Kind) {
	t.Helper()
	var rays []Ray
	var angles []int
	for dir, k := range kinds {
		if k == 0 {
			continue
		}
		rays = append(rays, Ray{dir, k})
		turned := 1
		for kinds[(dir+turned)%8] == 0 {
			turned++
		}
		angles = append(angles, turned)
	}
	straight := len(rays) == 2 && rays[0].Kind == rays[1].Kind && rays[1].Dir == rays[0].Dir+4
	is := slices.Clone(p.Creases)
	if got := checkSlice(t, func() ([]Ray, api.Errno) { return Creases(p, at) }); !slices.Equal(got, rays) {
		t.Errorf("%v at %v: the rays %v, expected %v", p, at, got, rays)
	}
	if n, e := Degree(p, at); e != api.OK || n != len(rays) {
		t.Errorf("%v at %v: %d rays, %d, expected %d", p, at, n, e, len(rays))
	}
	if got := checkSlice(t, func() ([]int, api.Errno) { return Angles(p, at) }); !slices.Equal(got, angles) {
		t.Errorf("%v at %v: the angles %v, expected %v", p, at, got, angles)
	}
	if got, e := Straight(p, at); e != api.OK || got != straight {
		t.Errorf("%v at %v: %t, %d, expected %t", p, at, got, e, straight)
	}
	if !slices.Equal(p.Creases, is) {
		t.Errorf("%v was changed into %v", is, p.Creases)
	}
}

func TestCreasesExamples(t *testing.T) { // P9.3, P9.4
	for _, x := range []struct {
		text     string
		at       api.Point
		rays     []Ray
		angles   []int
		straight bool
	}{
		{"m x 1 0 4; v u 2 2 4", api.Point{X: 2, Y: 2}, []Ray{{2, api.Mountain}, {6, api.Mountain}, {7, api.Valley}}, []int{4, 1, 3}, false},
		{"a d 0 0 1", api.Point{X: 1, Y: 1}, []Ray{{5, api.Any}}, []int{8}, false},
		{"a d 0 0 1", api.Point{X: 2, Y: 2}, nil, nil, false},
		{"", api.Point{X: 2, Y: 2}, nil, nil, false},
		{"v y 1 0 4", api.Point{X: 2, Y: 2}, []Ray{{0, api.Valley}, {4, api.Valley}}, []int{4, 4}, true},
		{"a u 2 0 4", api.Point{X: 2, Y: 2}, []Ray{{3, api.Any}, {7, api.Any}}, []int{4, 4}, true},
		{"v y 1 0 2; m y 1 2 4", api.Point{X: 2, Y: 2}, []Ray{{0, api.Mountain}, {4, api.Valley}}, []int{4, 4}, false},
		{"v y 1 0 2; a y 1 2 4", api.Point{X: 2, Y: 2}, []Ray{{0, api.Any}, {4, api.Valley}}, []int{4, 4}, false},
		{"m y 1 2 4; m d 0 0 2", api.Point{X: 2, Y: 2}, []Ray{{0, api.Mountain}, {5, api.Mountain}}, []int{5, 3}, false},
		{"m y 1 0 4; m x 1 0 4", api.Point{X: 2, Y: 2}, []Ray{{0, api.Mountain}, {2, api.Mountain}, {4, api.Mountain}, {6, api.Mountain}}, []int{2, 2, 2, 2}, false},
	} {
		p := pattern(t, four, x.text)
		rays, e := Creases(p, x.at)
		angles, f := Angles(p, x.at)
		straight, g := Straight(p, x.at)
		if !slices.Equal(rays, x.rays) || !slices.Equal(angles, x.angles) || straight != x.straight || e != api.OK || f != api.OK || g != api.OK {
			t.Errorf("%q at %v: %v, %d; %v, %d; %t, %d", x.text, x.at, rays, e, angles, f, straight, g)
		}
		if n, e := Degree(p, x.at); n != len(x.rays) || e != api.OK {
			t.Errorf("%q at %v: %d rays, %d", x.text, x.at, n, e)
		}
	}
}

func TestAllKindsOfRays(t *testing.T) { // P9.3, P9.4: each of the four kinds, 0 among them, in all directions
	for _, at := range []api.Point{{X: 2, Y: 2}, {X: 1, Y: 1}, {X: 3, Y: 1}} {
		step := 1 + at.X%2
		for choice := range 1 << (16 / step) {
			var kinds [8]api.Kind
			var l []segments.Segment
			for dir := step - 1; dir < 8; dir += step {
				kinds[dir] = api.Kind(choice & 3)
				choice >>= 2
				if kinds[dir] != 0 {
					l = append(l, ray(at, dir, kinds[dir]))
				}
			}
			p, _, e := segments.Pattern(four, l)
			if e != api.OK {
				t.Fatalf("%v: %d", l, e)
			}
			checkRays(t, p, at, kinds)
		}
	}
}

func TestRaysOfPatterns(t *testing.T) { // P9.3, P9.4
	for _, p := range somePatterns() {
		bySide := map[sheets.Unit]api.Kind{}
		for _, c := range p.Creases {
			bySide[sheets.Unit{Cell: c.Cell, Edge: c.Edge}] = c.Kind
		}
		for i, at := range cornersOf(p.Sheet) {
			if p.Sheet.W*p.Sheet.H > 100 && i%7 != 0 { // each call looks at all creases
				continue
			}
			var kinds [8]api.Kind
			for dir, u := range unitsAt(t, p.Sheet, at) {
				kinds[dir] = bySide[u]
			}
			checkRays(t, p, at, kinds)
		}
	}
}
