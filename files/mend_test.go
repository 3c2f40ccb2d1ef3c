package files

import (
	"strings"
	"testing"

	"crimp/api"
)

// checkMend checks what Mend returns, and that it is the same again for its own result.
func checkMend(t *testing.T, s, want string) {
	t.Helper()
	if got, e := Mend(s); e != api.OK || got != want {
		t.Errorf("%q: %q, %d, expected %q", s, got, e, want)
	}
	if got, e := Mend(want); e != api.OK || got != want {
		t.Errorf("%q: %q, %d", want, got, e)
	}
}

// checkNoMend checks that Mend returns nothing but an error.
func checkNoMend(t *testing.T, s string, want api.Errno) {
	t.Helper()
	if got, e := Mend(s); e != want || got != "" {
		t.Errorf("%.200q, %d bytes: %.200q, %d, expected %d", s, len(s), got, e, want)
	}
}

func TestMendExamples(t *testing.T) { // P11.4
	checkMend(t, "crease 1 1\n", "crease 1 1\nend 19496\n")
	checkMend(t, "crease 1 1\nend 5\n", "crease 1 1\nend 19496\n")
	checkMend(t, "crease 2 1\nm x 1 0 2\n", "crease 2 1\nm x 1 0 2\nend 39679\n")
	for _, n := range []string{"0", "5", "39678", "39680", "65535", "65536", "123456789", "999999999"} {
		checkMend(t, "crease 2 1\nm x 1 0 2\nend "+n+"\n", "crease 2 1\nm x 1 0 2\nend 39679\n")
	}
	checkMend(t, body("crease 2 4; m u 4 1 4; v u 5 2 4"), body("crease 2 4; m u 4 1 4; v u 5 2 4")+"end 0\n")
	checkMend(t, body("crease 2 4; m u 4 1 4; v u 5 2 4; end 12345"), body("crease 2 4; m u 4 1 4; v u 5 2 4")+"end 0\n")
}

func TestMendErrors(t *testing.T) { // P11.4: those of Decode for the file that is mended
	for _, x := range []struct {
		s string
		e api.Errno
	}{
		{"", api.ErrForm}, {"\n", api.ErrForm}, {"end 5\n", api.ErrForm}, {"end 17\n", api.ErrForm}, {"x\n", api.ErrForm}, {"m x 1 0 2\n", api.ErrForm}, {"crease 1\n", api.ErrForm}, {"crease 1 1\nx\nend 5\n", api.ErrForm},
		// The end is added behind all bytes, though the last line is not ended.
		{"crease 1 1", api.ErrForm}, {"crease 1 1\nend 5", api.ErrForm}, {"crease 1 1\nend", api.ErrForm}, {"crease 2 1\nm x 1 0 2", api.ErrForm}, {"crease 1 1\nend 19496", api.ErrForm},
		// Only one end is replaced, and only if it is the last line.
		{"crease 1 1\nend 5\nend 5\n", api.ErrForm}, {"crease 1 1\nend 5\n\n", api.ErrForm}, {"crease 1 1\nend 5\nx\n", api.ErrForm}, {"crease 1 1\nend 5\nx", api.ErrForm}, {"crease 2 1\nend 5\nm x 1 0 2\n", api.ErrForm}, {file("crease 1 1") + "\n", api.ErrForm},
		// A line that is not as above is no end.
		{"crease 1 1\nend 05\n", api.ErrForm}, {"crease 1 1\nend 1234567890\n", api.ErrForm}, {"crease 1 1\nend -5\n", api.ErrForm}, {"crease 1 1\nend \n", api.ErrForm}, {"crease 1 1\nend\n", api.ErrForm}, {"crease 1 1\nend 5 \n", api.ErrForm}, {"crease 1 1\nEnd 5\n", api.ErrForm}, {"crease 1 1\nend 5\r\n", api.ErrForm}, {"crease 1 1\n end 5\n", api.ErrForm}, {"crease 1 1end 5\n", api.ErrForm}, {"crease 1 1\n5\n", api.ErrForm},
		{body("crease 0 1"), api.ErrArg}, {body("crease 17 16; m x 1 0 3"), api.ErrArg}, {body("crease 2 1; m x 1 0 3"), api.ErrNone}, {body("crease 2 1; m x 1 0 2; m x 1 0 2"), api.ErrThere}, {body("crease 3 1; v x 2 0 2; m x 1 0 2"), api.ErrState}, {body("crease 2 2; m x 1 0 2; m x 1 2 4"), api.ErrState},
	} {
		checkNoMend(t, x.s, x.e)
		if x.e != api.ErrForm {
			checkNoMend(t, x.s+"end 5\n", x.e)
		}
	}
}

func TestMendLimit(t *testing.T) { // P11.4
	for _, s := range []string{"x", "\n", file("crease 1 1"), "crease 1 1\nend 5\n"} {
		long := strings.Repeat(s, MaxFile+1)
		checkNoMend(t, long[:MaxFile+1], api.ErrLimit)
		checkNoMend(t, long, api.ErrLimit)
	}
	checkNoMend(t, strings.Repeat("x", MaxFile), api.ErrLimit) // there is no room for an end
	for _, x := range longFiles {
		whole := longFile(t, x.sheet, MaxFile)
		more := longFile(t, x.sheet, MaxFile+1)
		less := longFile(t, x.sheet, MaxFile-4)
		const end = len("end 12345\n")
		checkNoMend(t, whole, x.e)
		checkNoMend(t, whole[:MaxFile-end], x.e)
		checkNoMend(t, whole[:MaxFile-end]+"end 5\n", x.e)
		checkNoMend(t, more, api.ErrLimit)
		checkNoMend(t, more[:MaxFile+1-end], api.ErrLimit)
		checkNoMend(t, more[:MaxFile+1-end]+"end 5\n", api.ErrLimit)
		checkNoMend(t, less[:MaxFile-4-end]+"end 123456789\n", x.e)
		// With the right end it would be short enough; but it is not before.
		checkNoMend(t, whole[:MaxFile-end]+"end 123456789\n", api.ErrLimit)
		checkNoMend(t, whole[:MaxFile-end]+"end 123456\n", api.ErrLimit)
	}
}
