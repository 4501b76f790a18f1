package brew_test

import (
	"testing"

	"brew/brew"
)

// TestExamples has what the document shows.
func TestExamples(t *testing.T) {
	checkAll(t, []verdict{
		{";;;:k1k2+t.", brew.OK, 0}, {";;;:k1+t.", brew.ErrType, 0}, {";;;:k1t", brew.ErrForm, 7}, {";;;:j07.", brew.ErrLink, 4},
	})
	for image, types := range map[string]string{
		";;;:k1k2+t.": "|,i|,ii|,i|,;", "-.;;;A:rf04k1s0k0t.": "|A,i|A,|A,i|A,|-,i|-,;",
	} {
		if got, e := brew.Types(image); got != types || e != brew.OK {
			t.Errorf("Types(%q) = %q, %d", image, got, e)
		}
	}
	runAll(t, []ran{
		{";;;:k1wk2wk3t.", "", 0, 9, "1 2 ", 3, brew.OK},
		{";;;:k1wk2wk3t.", "", 0, 3, "1 ", 0, brew.ErrFuel},
		{"-ii.;;;A:nAs0nAs0nAs0k0t.", "", 6, 40, "", 0, brew.OK},
		{"-ii.;;;A:nAs0nAs0nAs0k0t.", "", 5, 40, "", 0, brew.ErrMemory},
		{"-ii.;;;A:nAs0rf06k2s0nAdk0t.", "\x00", 3, 40, "", 0, brew.OK},
	})
	scanAll(t, []verdict{
		{"-.A.A.;;;A:s0i1nBnC.", brew.OK, 0}, {"-.-.;;;:ei1nAnBz.", brew.ErrType, 0},
	})
	evalAll(t, []worked{
		{";;;i:,o<l05,wl0s0+l01l0.", "", 200, "0 1 2 3 4 ", 5, brew.OK},
		{";;;:,w1,w23.", "", 4, "1 ", 0, brew.ErrFuel},
		{"-.A.;ii.;A0:l1.B0:*l1l1.;:+cA0nA5cA0nB5.", "", 50, "", 30, brew.OK},
	})
	if image, e := brew.Compile(";;;:+34."); image != ";;;:k3k4+t." || e != brew.OK {
		t.Errorf("Compile: %q, %d", image, e)
	}
}
