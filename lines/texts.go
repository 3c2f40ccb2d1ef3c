package lines

import (
	"strconv"

	"crimp/api"
)

// Text formats a line. (P1.5)
func Text(l api.Line) string {
	if Check(l) != api.OK {
		return ""
	}
	return string(wayOf(l.Kind).letter) + " " + strconv.Itoa(l.C)
}

// Parse returns the line with a text. (P1.5)
func Parse(s string) (api.Line, api.Errno) {
	l := read(s)
	// A line has one text only: comparing it rejects all that read passes over.
	if Check(l) != api.OK || Text(l) != s {
		return api.Line{}, api.ErrForm
	}
	return l, api.OK
}

// read returns the line whose text s must be if it is one at all.
func read(s string) api.Line {
	var l api.Line
	sign := 1
	for i, r := range s {
		switch {
		case i == 0:
			l.Kind = kindOf(r)
		case r == '-':
			sign = -1
		case '0' <= r && r <= '9' && l.C <= api.MaxC: // beyond the limit more digits change nothing
			l.C = 10*l.C + int(r-'0')
		}
	}
	l.C *= sign
	return l
}

// kindOf returns the kind that has a letter, or 0.
func kindOf(letter rune) api.LineKind {
	for k := api.V; isKind(k); k++ {
		if wayOf(k).letter == letter {
			return k
		}
	}
	return 0
}
