package places

import (
	"slices"
	"testing"

	"crimp/api"
	"crimp/moves"
)

func TestFoldedSheets(t *testing.T) { // P10.1: the places are those to which folds of all layers have brought the cells
	for _, x := range foldedSheets() {
		if got, e := Places(x.p, x.places[0]); e != api.OK || !slices.Equal(got, x.places) {
			t.Errorf("%v: %v, %d, expected %v", x.p, got, e, x.places)
		}
	}
}

func TestTearExamples(t *testing.T) { // P10.1
	for _, x := range []struct {
		creases string
		tears   bool
	}{
		{"", false},
		{"m x 1 0 4; v y 1 0 4", false},
		{"m x 1 0 4; v y 1 0 2", true},
		{"m x 1 0 2", true},
		{"v u 2 0 4; v d 0 0 4", false},
		{"m x 1 0 4; m u 2 2 4; m d 0 0 2", false},
		{"m x 1 0 4; m u 2 0 2; m d 0 0 2", true},
		{"m u 1 0 1", true},
		{"m u 1 0 2; m u 3 2 3", true},
	} {
		p := pattern(t, four, x.creases)
		if !x.tears {
			if l, e := Places(p, moves.Identity()); e != api.OK || len(l) != 16 {
				t.Errorf("%s: %v, %d", x.creases, l, e)
			}
			continue
		}
		expectError(t, p, moves.Identity(), api.ErrTear)
	}
}
