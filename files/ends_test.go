package files

import (
	"strings"
	"testing"
)

// sumOf is the check sequence of a text, by how often each byte counts.
func sumOf(s string) uint16 {
	a, b := 1, len(s)
	for i := range len(s) {
		a += int(s[i])
		b += (len(s) - i) * int(s[i])
	}
	return uint16((b + 17*a) % 65521)
}

func TestSumExamples(t *testing.T) { // P11.1
	all := ""
	for c := range 256 {
		all += string([]byte{byte(c)})
	}
	for _, x := range []struct {
		s    string
		want uint16
	}{
		{"", 17}, {"a", 1764}, {"ab", 3626}, {"ba", 3627}, {"abc", 5604},
		{"crease 1 1\n", 19496}, {"crease 2 1\nm x 1 0 2\n", 39679}, {"crease 16 16\n", 23209},
		// Bytes count, not characters.
		{"\x00", 18}, {"\xff", 4608}, {"µ", 6963}, {all, 9742},
		// Both numbers pass the modulus; the greatest result is 65520.
		{strings.Repeat("\xff", 256), 63489}, {strings.Repeat("\xff", 257), 2318}, {strings.Repeat("\xff", 258), 6923}, {strings.Repeat("\xff", 65536), 30136},
		{strings.Repeat("\x00", 65503), 65520}, {strings.Repeat("\x00", 65504), 0}, {strings.Repeat("\x00", 65505), 1},
	} {
		if got := Sum(x.s); got != x.want || got != sumOf(x.s) {
			t.Errorf("%.20q, %d bytes: %d, expected %d and %d", x.s, len(x.s), got, x.want, sumOf(x.s))
		}
	}
}

func TestSum(t *testing.T) { // P11.1: all texts have one, also such that are no files, and longer ones
	for c := 0; c < 256; c += 17 {
		for _, n := range []int{1, 2, 3, 255, 256, 257, 1000, 65520, 65521, 65522, MaxFile, MaxFile + 1} {
			if s := strings.Repeat(string([]byte{byte(c)}), n); Sum(s) != sumOf(s) || Sum(s+"\n") != sumOf(s+"\n") {
				t.Fatalf("%d times %d: %d and %d, expected %d and %d", n, c, Sum(s), Sum(s+"\n"), sumOf(s), sumOf(s+"\n"))
			}
		}
	}
}
