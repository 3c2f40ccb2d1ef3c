package files

import (
	"strconv"
	"strings"

	"crimp/api"
	"crimp/segments"
	"crimp/sheets"
)

// sheetWord is how the first line of a file begins.
const sheetWord = "crease "

// maxDigits is the greatest number of digits of a number, but for those of segments.
const maxDigits = 9

// content is what the lines of a file say.
type content struct {
	sheet    sheets.Sheet
	segments []segments.Segment
	ended    bool
}

// lineOf returns the number of the line with a segment: the first one stands behind the line with the sheet.
func lineOf(segment int) int { return segment + 2 }

// read returns what the lines of a file say, and 0; or the number of the first one that is malformed or missing.
func read(s string) (content, int) {
	var c content
	number := 0
	for line := range strings.Lines(s) {
		number++
		if !c.add(number, line) {
			return content{}, number
		}
	}
	if !c.ended {
		return content{}, number + 1
	}
	return c, 0
}

// add adds what the line with a number says; false if it is malformed, or must not stand there.
func (c *content) add(number int, line string) bool {
	text, whole := strings.CutSuffix(line, "\n")
	switch {
	case !whole || c.ended:
		return false
	case number == 1:
		s, is := parseSheet(text)
		c.sheet = s
		return is
	case isEnd(text):
		c.ended = true
		return true
	}
	x, e := segments.Parse(text)
	c.segments = append(c.segments, x)
	return e == api.OK
}

// parseSheet returns the sheet of which a line tells, be it valid or not; false if the line is malformed.
func parseSheet(text string) (sheets.Sheet, bool) {
	sides, found := strings.CutPrefix(text, sheetWord)
	left, right, _ := strings.Cut(sides, " ") // without a space the right one is empty, which is no number
	w, isW := parseNumber(left)
	h, isH := parseNumber(right)
	return sheets.Sheet{W: w, H: h}, found && isW && isH
}

// parseNumber returns the number with these digits; false if there are other characters, too many ones, or leading zeros.
func parseNumber(digits string) (int, bool) {
	n, _ := strconv.Atoi(digits) // of what is malformed it makes another number
	is := len(digits) <= maxDigits && n >= 0 && strconv.Itoa(n) == digits
	return n, is
}
