package segments

import (
	"strconv"
	"strings"

	"crimp/api"
	"crimp/lines"
)

// letters are those of the kinds, which are counted from 1 on.
const letters = "mva"

// Text formats a segment. (P7.5)
func Text(x Segment) string {
	if !isSegment(x) || x.From < -MaxPlace || x.To > MaxPlace {
		return ""
	}
	letter := letters[x.Kind-1]
	return string(letter) + " " + lines.Text(x.Line) + " " + strconv.Itoa(x.From) + " " + strconv.Itoa(x.To)
}

// Parse returns the segment with a text. (P7.5)
func Parse(s string) (Segment, api.Errno) {
	x := read(s)
	// A segment has at most one text: comparing it rejects all that read passes over.
	if t := Text(x); t == "" || t != s {
		return Segment{}, api.ErrForm
	}
	return x, api.OK
}

// read returns the segment whose text s must be if it is one at all.
func read(s string) Segment {
	parts := strings.SplitN(s, " ", 5)
	if len(parts) < 5 {
		return Segment{}
	}
	// Of what is malformed these make some other value, or 0.
	line, _ := lines.Parse(parts[1] + " " + parts[2])
	from, _ := strconv.Atoi(parts[3])
	to, _ := strconv.Atoi(parts[4])
	kind := api.Kind(strings.Index(letters, parts[0]) + 1)
	return Segment{Kind: kind, Line: line, From: from, To: to}
}
