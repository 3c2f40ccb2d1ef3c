// Package lines contains the lines on which paper can be folded, and reflects points and lines in them. It is layer 1: see shared/doc/01-lines.md.
package lines

import "crimp/api"

// MaxPoint is the greatest coordinate of a point, in halves, on both sides.
const MaxPoint = 16 * api.MaxC

// Check returns why a line is not valid, or OK. (P1.1)
func Check(l api.Line) api.Errno {
	if !isKind(l.Kind) || !within(l.C, api.MaxC) {
		return api.ErrArg
	}
	return api.OK
}

// CheckPoint returns why a point is not valid, or OK. (P1.1)
func CheckPoint(p api.Point) api.Errno {
	if !within(p.X, MaxPoint) || !within(p.Y, MaxPoint) {
		return api.ErrArg
	}
	return api.OK
}

// within reports whether n is from -limit to limit.
func within(n, limit int) bool { return -limit <= n && n <= limit }

// Side returns -1 for a point on the low side of a line, 1 on the high side, and 0 on the line. (P1.2)
func Side(l api.Line, p api.Point) int {
	if Check(l) != api.OK || CheckPoint(p) != api.OK {
		return 0
	}
	// Points are in halves, C is not.
	beyond := wayOf(l.Kind).value(p) - 2*l.C
	switch {
	case beyond < 0:
		return -1
	case beyond > 0:
		return 1
	}
	return 0
}

// Reflect returns the mirror image of a point. (P1.3)
func Reflect(l api.Line, p api.Point) (api.Point, api.Errno) {
	if Check(l) != api.OK || CheckPoint(p) != api.OK {
		return api.Point{}, api.ErrArg
	}
	q := wayOf(l.Kind).mirror(2*l.C, p)
	if CheckPoint(q) != api.OK {
		return api.Point{}, api.ErrLimit
	}
	return q, api.OK
}

// Image returns the mirror image of a line in another one. (P1.3)
func Image(l, of api.Line) (api.Line, api.Errno) {
	if Check(l) != api.OK || Check(of) != api.OK {
		return api.Line{}, api.ErrArg
	}
	// As the kinds tell the kind of the image, one of its points tells C. All is in whole units here.
	w := wayOf(l.Kind)
	kind := w.images[of.Kind]
	point := w.mirror(l.C, wayOf(of.Kind).point(of.C))
	return limited(api.Line{Kind: kind, C: wayOf(kind).value(point)})
}

// limited returns a line whose C may lie beyond the limit, or ErrLimit.
func limited(l api.Line) (api.Line, api.Errno) {
	if !within(l.C, api.MaxC) {
		return api.Line{}, api.ErrLimit
	}
	return l, api.OK
}

// Meet returns the point at which two lines meet. (P1.4)
func Meet(a, b api.Line) (api.Point, api.Errno) {
	if Check(a) != api.OK || Check(b) != api.OK {
		return api.Point{}, api.ErrArg
	}
	if a.Kind == b.Kind {
		return api.Point{}, api.ErrNone
	}
	m, n := slope(a.Kind), slope(b.Kind)
	// Cramer's rule: det is 1, 2, -1 or -2, so that both quotients are whole numbers of halves.
	det := m.X*n.Y - m.Y*n.X
	return api.Point{
		X: 2 * (a.C*n.Y - b.C*m.Y) / det,
		Y: 2 * (m.X*b.C - n.X*a.C) / det,
	}, api.OK
}

// slope returns by how much the value of a kind grows along x and along y.
func slope(k api.LineKind) api.Point {
	value := wayOf(k).value
	return api.Point{X: value(api.Point{X: 1}), Y: value(api.Point{Y: 1})}
}

// Through returns the line of a kind through a point. (P1.4)
func Through(k api.LineKind, p api.Point) (api.Line, api.Errno) {
	if !isKind(k) || CheckPoint(p) != api.OK {
		return api.Line{}, api.ErrArg
	}
	v := wayOf(k).value(p)
	if v%2 != 0 {
		return api.Line{}, api.ErrNone
	}
	return limited(api.Line{Kind: k, C: v / 2})
}
