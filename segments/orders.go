package segments

import (
	"cmp"

	"crimp/patterns"
)

// compareSpots orders spots by the kinds of their lines, by C, and then by their places.
func compareSpots(a, b spot) int {
	return comparePairs(
		[2]int{int(a.line.Kind), int(b.line.Kind)},
		[2]int{a.line.C, b.line.C},
		[2]int{a.from, b.from},
	)
}

// compareCreases orders creases by their cells, and then by their edges.
func compareCreases(a, b patterns.Crease) int {
	return comparePairs([2]int{a.Cell, b.Cell}, [2]int{int(a.Edge), int(b.Edge)})
}

// comparePairs compares the two numbers of the first pair in which they differ; 0 if there is none.
func comparePairs[N cmp.Ordered](pairs ...[2]N) int {
	for _, p := range pairs {
		if order := cmp.Compare(p[0], p[1]); order != 0 {
			return order
		}
	}
	return 0
}
