package brew_test

import (
	"strings"
	"testing"

	"brew/brew"
)

const (
	letters = "krwls+-*/<=enzgpcxdjft"
	digits  = "0123456789"
)

// full is a text with as many bodies as there can be.
const full = "-.-.;ii.ii.ii.;A0:l1t.A1:l1t.A2:l1t.B0:l1t.B1:l1t.B2:l1t."

// heads tells, for what stands ahead of what is to be done, each byte that can stand behind it.
var heads = []struct{ ahead, can string }{
	{"", "-;"},
	{"-", "iA."},
	{"-i", "iA."},
	{"-A", "iA."},
	{"-ii", "."},
	{"-.", "-A;"},
	{"-.A", "iAB."},
	{"-.Aii", "."},
	{"-ii.A", "iAB."},
	{"-.-.A", "iABC."},
	{"-.A.B", "iABC."},
	{"-.A.B.", "-ABC;"},
	{"-.A.B.C", "iABCD."},
	{"-.A.B.C.", ";"},
	{";", "i;"},
	{"-.-.;", "iAB;"},
	{"-.;i", "iA"},
	{";i", "i"},
	{"-.;A", "iA"},
	{"-.;ii", "."},
	{";ii.", "i;"},
	{";ii.ii.", "i;"},
	{";ii.ii.ii.", ";"},
	{";;", ";"},
	{";ii.;", ";"},
	{"-.;;", "A;"},
	{"-.;;A", ""},
	{"-.-.;ii.;", "AB;"},
	{"-.;ii.;A", "0"},
	{"-.;ii.ii.ii.;A", "012"},
	{"-.;ii.ii.ii.;A1:l1t.A", "02"},
	{"-.;ii.;A0:l1t.", "A;"},
	{"-.;ii.;A0:l1t.A", ""},
	{"-.-.;ii.;A0:l1t.B", "0"},
	{"-.;ii.;A0", "iA:"},
	{"-.-.;ii.;A0B", "iAB:"},
	{"-.;ii.;A0iA", "iA:"},
	{"-.;ii.;A0iii", ":"},
	{strings.TrimSuffix(full, "B2:l1t."), "AB;"},
	{full, ";"},
	{full + ";", "iAB:"},
	{";;;", "i:"},
	{"-.-.;;;", "iAB:"},
	{";;;ii", "i:"},
	{";;;iii", ":"},
}

// TestP3EveryByte tells, for what stands ahead, each byte that can stand behind it.
func TestP3EveryByte(t *testing.T) {
	for _, c := range heads {
		everyByte(t, brew.Check, c.ahead, c.can)
	}
	for _, c := range []struct{ ahead, can string }{
		{"-.;ii.;A0:", letters},
		{"-.;ii.;A0:t", letters + "."},
		{"-.;ii.;A0:l", "01"},
		{"-.;ii.;A0i:l", "012"},
		{"-.;ii.;A0iAi:s", "01234"},
		{";;;:", letters},
		{";;;:k", digits},
		{";;;:k9", letters + "."},
		{";;;:r", letters + "."},
		{";;;:l", ""},
		{";;;:s", ""},
		{";;;i:l", "0"},
		{";;;iii:s", "012"},
		{";;;:n", ""},
		{";;;:x", ""},
		{"-.;;;:n", "A"},
		{"-.-.;;;:x", "AB"},
		{"-.-.;;;:xB", letters + "."},
		{"-.;;;:g", "A"},
		{"-.;;;:gA", ""},
		{"-i.;;;:gA", "0"},
		{"-i.;;;:gA0", letters + "."},
		{"-i.Ai.;;;:gA", "0"},
		{"-i.Ai.-i.;;;:gB", "01"},
		{"-ii.Aii.Bii.Cii.;;;:pD", "01234567"},
		{"-ii.Aii.Bii.Cii.;;;:pC", "012345"},
		{"-.-.;;;:c", "AB"},
		{"-.;;;:cA", ""},
		{"-.;ii.;;:cA", "0"},
		{"-.;ii.ii.ii.;;:cA", "012"},
		{";;;:j", digits},
		{";;;:f", digits},
		{";;;:j9", digits},
		{";;;:f0", digits},
		{";;;:j99", letters + "."},
		{";;;:" + strings.Repeat("r", 99), letters + "."},
		{";;;:" + strings.Repeat("r", 100), "."},
		{"-.;ii.;A0:" + strings.Repeat("r", 100), "."},
	} {
		everyByte(t, brew.Check, c.ahead, c.can)
	}
}

// everyByte looks at what Check or Scan says of each byte behind what stands ahead.
func everyByte(t *testing.T, call func(string) (brew.Errno, int), ahead string, can string) {
	t.Helper()
	if e, at := call(ahead); e != brew.ErrForm || at != len(ahead) {
		t.Errorf("of %q, which ends too early: %d, %d", ahead, e, at)
	}
	for b := 0; b < 256; b++ {
		text := ahead + string([]byte{byte(b)})
		e, at := call(text)
		refused := e == brew.ErrForm && at == len(ahead)
		if stands := strings.IndexByte(can, byte(b)) >= 0; stands == refused {
			t.Errorf("of %q: %d, %d, but that the last byte can stand there is %v", text, e, at, stands)
		}
	}
}

func TestP3NothingBehind(t *testing.T) {
	for b := 0; b < 256; b++ {
		image := ";;;:k0t." + string([]byte{byte(b)})
		if e, at := brew.Check(image); e != brew.ErrForm || at != 8 {
			t.Errorf("Check(%q) = %d, %d", image, e, at)
		}
	}
}

func TestP3EveryBeginning(t *testing.T) {
	for _, image := range []string{
		full + ";iii:k0t.",
		"-iA.Ai.-.;iA.BC.;A0iB:nBxAt.B1:l1xCt.C1ABC:zt.;BiA:nBs0l0k1pB0l0nApB1l0zcB1dl0gB2rf15zzetk1j15.",
	} {
		if e, at := brew.Check(image + "."); e != brew.ErrForm || at != len(image) {
			t.Errorf("Check(%q) = %d, %d", image+".", e, at)
		}
		for n := 0; n < len(image); n++ {
			if e, at := brew.Check(image[:n]); e != brew.ErrForm || at != n {
				t.Errorf("Check(%q) = %d, %d", image[:n], e, at)
			}
		}
	}
}

// long answers an image that Check takes and that has as many bytes as n says, from 1845 to 2000.
func long(n int) string {
	whole := "-.-.;ii.ii.ii.;"
	for _, head := range []string{"A0:", "A1:", "A2:", "B0:", "B1:", "B2:"} {
		whole += head + strings.Repeat("j00", 100) + "."
	}
	whole += ";:"
	rest := n - len(whole) - len(".")
	return whole + strings.Repeat("j00", rest/3) + strings.Repeat("r", rest%3) + "."
}

func TestP3Long(t *testing.T) {
	for n := 1995; n <= 2000; n++ {
		image := long(n)
		if len(image) != n {
			t.Fatalf("the test's image has %d bytes, not %d", len(image), n)
		}
		if e, at := brew.Check(image); e != brew.OK || at != 0 {
			t.Errorf("an image of %d bytes: %d, %d", n, e, at)
		}
	}
	for _, n := range []int{2001, 2002, 4000, 1 << 24} {
		for _, unit := range []string{"-", "r", ";;;:k0t.", "\x00", "\xff"} {
			image := strings.Repeat(unit, n/len(unit)+1)
			refusesLong(t, image)
		}
	}
	refusesLong(t, long(2000)+" ")
	whole := strings.Repeat("-", 2000)
	if e, at := brew.Check(whole); e != brew.ErrForm || at != 1 {
		t.Errorf("2000 bytes that are no image: %d, %d", e, at)
	}
}

func refusesLong(t *testing.T, image string) {
	t.Helper()
	if e, at := brew.Check(image); e != brew.ErrLong || at != 0 {
		t.Errorf("Check of %d bytes: %d, %d", len(image), e, at)
	}
	if s, e := brew.Types(image); e != brew.ErrLong || s != "" {
		t.Errorf("Types of %d bytes: %q, %d", len(image), s, e)
	}
	if n := testing.AllocsPerRun(1, func() { brew.Check(image) }); n != 0 {
		t.Errorf("P1: Check of %d bytes did other work ahead of a look at the length", len(image))
	}
}
