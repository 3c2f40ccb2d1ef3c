package files

import (
	"strconv"
	"strings"
)

// modulus is a prime: so a byte that is changed changes the check sequence, unless 65504 bytes stand from it on, which are more than any pattern needs.
const modulus = 65521

// Sum returns the check sequence of a text. (P11.1)
func Sum(s string) uint16 {
	a, b := 1, 0
	for i := range len(s) {
		a = (a + int(s[i])) % modulus
		b = (b + a) % modulus
	}
	return uint16((b + 17*a) % modulus)
}

// endWord is how the last line of a file begins.
const endWord = "end "

// closed returns the file that consists of a body and the right end.
func closed(body string) string {
	return body + endWord + strconv.Itoa(int(Sum(body))) + "\n"
}

// bodyOf returns all bytes before the end of a file; all bytes if its last line is none.
func bodyOf(file string) string {
	before := strings.LastIndexByte(strings.TrimSuffix(file, "\n"), '\n') + 1
	if text, whole := strings.CutSuffix(file[before:], "\n"); whole && isEnd(text) {
		return file[:before]
	}
	return file
}

// isEnd reports whether a line is the end of a file, with a right or a wrong number.
func isEnd(text string) bool {
	digits, found := strings.CutPrefix(text, endWord)
	_, is := parseNumber(digits)
	return found && is
}
