package moves

import (
	"strconv"
	"strings"

	"crimp/api"
)

// Text formats a move. (P2.5)
func Text(m Move) string {
	if Check(m) != api.OK {
		return ""
	}
	return strconv.Itoa(int(m.Turn)) + " " + strconv.Itoa(m.X) + " " + strconv.Itoa(m.Y)
}

// Parse returns the move with a text. (P2.5)
func Parse(s string) (Move, api.Errno) {
	m := read(s)
	// A move has one text only: comparing it rejects all that read passes over.
	if Check(m) != api.OK || Text(m) != s {
		return Move{}, api.ErrForm
	}
	return m, api.OK
}

// read returns the move whose text s must be if it is one at all.
func read(s string) Move {
	var n [3]int
	for i, part := range strings.SplitN(s, " ", len(n)) {
		n[i], _ = strconv.Atoi(part)
	}
	return Move{Turn: uint8(n[0]), X: n[1], Y: n[2]}
}
