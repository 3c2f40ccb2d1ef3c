package sets

import (
	"slices"
	"strings"

	"crimp/api"
)

// drawn is the drawing of a square: a character for each quarter.
type drawn [quarters]byte

var letters = drawn{api.South: 'S', api.East: 'E', api.North: 'N', api.West: 'W'}

// Text draws a set. (P4.6)
func Text(l []api.Cell) (string, api.Errno) {
	if e := Check(l); e != api.OK {
		return "", e
	}
	if len(l) == 0 {
		return "", api.OK
	}
	left, right := columns(l)
	top, bottom := l[len(l)-1].Y, l[0].Y
	width, height := right-left+1, top-bottom+1
	if height*(width*quarters+1) > MaxText {
		return "", api.ErrLimit
	}
	squares := slices.Repeat([]drawn{{'.', '.', '.', '.'}}, width*height)
	for _, c := range l {
		squares[(top-c.Y)*width+c.X-left][c.Q] = letters[c.Q]
	}
	return joined(squares, width), api.OK
}

// columns returns the least and the greatest X of the cells of a set that is not empty.
func columns(l []api.Cell) (left, right int) {
	left, right = l[0].X, l[0].X
	for _, c := range l {
		left, right = min(left, c.X), max(right, c.X)
	}
	return left, right
}

// joined returns the lines of drawn squares, each of which has width of them.
func joined(squares []drawn, width int) string {
	var text strings.Builder
	for row := range slices.Chunk(squares, width) {
		for _, s := range row {
			text.Write(s[:])
		}
		text.WriteByte('\n')
	}
	return text.String()
}
