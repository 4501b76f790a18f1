package brew_test

import (
	"strings"
	"testing"

	"brew/brew"
)

const nodeLetters = digits + "rzln+-*/<=egxcspw,io"

// TestP14EveryByte tells, for what stands ahead, each byte that can stand behind it.
func TestP14EveryByte(t *testing.T) {
	for _, c := range heads {
		everyByte(t, brew.Scan, strings.ReplaceAll(c.ahead, "l1t.", "l1."), c.can)
	}
	many := ";;;:" + strings.Repeat("w", 22)
	for _, c := range []struct{ ahead, can string }{
		{"-.;ii.;A0:", nodeLetters},
		{"-.;ii.;A0:l", "01"},
		{"-.;ii.;A0:l0", "."},
		{"-.;ii.;A0i:l", "012"},
		{"-.;ii.;A0iAi:s", "01234"},
		{";;;:", nodeLetters},
		{";;;:0", "."},
		{";;;:9", "."},
		{";;;:r", "."},
		{";;;:z", "."},
		{";;;:l", ""},
		{";;;:s", ""},
		{";;;i:l", "0"},
		{";;;iii:s", "012"},
		{";;;i:s0", nodeLetters},
		{";;;i:s01", "."},
		{";;;:n", ""},
		{";;;:x", ""},
		{"-.;;;:n", "A"},
		{"-.;;;:nA", "."},
		{"-.-.;;;:x", "AB"},
		{"-.-.;;;:xB", nodeLetters},
		{"-.-.;;;:xBz", "."},
		{"-.;;;:g", "A"},
		{"-.;;;:gA", ""},
		{"-i.;;;:gA", "0"},
		{"-i.;;;:gA0", nodeLetters},
		{"-i.;;;:gA0z", "."},
		{"-i.Ai.-i.;;;:gB", "01"},
		{"-i.Ai.-i.;;;:gC", "0"},
		{"-ii.Aii.Bii.Cii.;;;:pD", "01234567"},
		{"-i.;;;:pA0", nodeLetters},
		{"-i.;;;:pA0z", nodeLetters},
		{"-i.;;;:pA0z1", "."},
		{"-.-.;;;:c", "AB"},
		{"-.;;;:cA", ""},
		{"-.;ii.;;:cA", "0"},
		{"-.;ii.ii.ii.;;:cA", "012"},
		{"-.;ii.;;:cA0", nodeLetters},
		{"-.;ii.;;:cA0z", nodeLetters},
		{"-.;ii.;;:cA0z1", "."},
		{";;;:w", nodeLetters},
		{";;;:w1", "."},
		{";;;:i", nodeLetters},
		{";;;:i1", nodeLetters},
		{";;;:i11", nodeLetters},
		{";;;:i111", "."},
		// A node ends where its last part does, however deep that is.
		{";;;:+*12", nodeLetters},
		{";;;:+*12i1*34", nodeLetters},
		{";;;:+*12i1*34w-67", "."},
		// Twenty-four nodes and no more; each body has that many.
		{many + "w", nodeLetters},
		{many + "ww", ""},
		{many + "w1", "."},
		{many + "+1", ""},
		{many + "i1", ""},
		{many + "i", nodeLetters},
		{";;;:" + strings.Repeat("i", 24), ""},
		{";;;:" + strings.Repeat("+", 11) + strings.Repeat("1", 12), "."},
		{";;;:w" + strings.Repeat("+", 11) + strings.Repeat("1", 12), "."},
		{";;;:" + strings.Repeat("+", 12) + strings.Repeat("1", 12), ""},
		{"-.;ii.;A0:" + strings.Repeat("w", 24), ""},
		{"-.;ii.;A0:" + strings.Repeat("w", 23) + "1.;:" + strings.Repeat("w", 23), nodeLetters},
	} {
		everyByte(t, brew.Scan, c.ahead, c.can)
	}
	for _, letter := range "+-*/<=e,o" {
		node := ";;;:" + string(letter)
		everyByte(t, brew.Scan, node, nodeLetters)
		everyByte(t, brew.Scan, node+"1", nodeLetters)
		everyByte(t, brew.Scan, node+"11", ".")
	}
}

func TestP14EveryBeginning(t *testing.T) {
	source := "-iA.Ai.-.;iA.BC.;A0iB:xAnB.B1:xCl1.C1ABC:,s0z,ez+1w*r-1/2<3=41z.;BiA:,s0nB,pB0l01i1o+12nAcB1l0z."
	if e, at := brew.Scan(source + "."); e != brew.ErrForm || at != len(source) {
		t.Errorf("Scan(%q) = %d, %d", source+".", e, at)
	}
	for n := 0; n < len(source); n++ {
		if e, at := brew.Scan(source[:n]); e != brew.ErrForm || at != n {
			t.Errorf("Scan(%q) = %d, %d", source[:n], e, at)
		}
	}
	for b := 0; b < 256; b++ {
		behind := ";;;:0." + string([]byte{byte(b)})
		if e, at := brew.Scan(behind); e != brew.ErrForm || at != 6 {
			t.Errorf("Scan(%q) = %d, %d", behind, e, at)
		}
	}
}

// longSource answers a source that Scan takes and that has as many bytes as n says, from 360 to 410.
func longSource(n int) string {
	chain := strings.Repeat("gA0", 22)
	whole := "-A.-.;iA.iA.iA.;A0:" + chain + "l0.A1:" + chain + "l0.A2:" + chain + "l0.B0:" + chain + "z.B1:" + chain[:36] + "z.;:ez"
	rest := n - len(whole) - len("z.")
	steps := ""
	for ; rest%3 != 0; rest -= 2 {
		steps += "xA"
	}
	return whole + steps + strings.Repeat("gA0", rest/3) + "z."
}

func TestP14Long(t *testing.T) {
	for n := 360; n <= 400; n++ {
		source := longSource(n)
		if len(source) != n {
			t.Fatalf("the test's source has %d bytes, not %d", len(source), n)
		}
		if e, at := brew.Scan(source); e != brew.OK || at != 0 {
			t.Errorf("a source of %d bytes: %d, %d", n, e, at)
		}
	}
	refusesLongSource(t, longSource(401))
	refusesLongSource(t, longSource(400)+" ")
	for _, n := range []int{401, 402, 2001, 1 << 24} {
		for _, unit := range []string{"-", "w", ";;;:0.", "\x00", "\xff"} {
			refusesLongSource(t, strings.Repeat(unit, n/len(unit)+1))
		}
	}
	if e, at := brew.Scan(strings.Repeat("-", 400)); e != brew.ErrForm || at != 1 {
		t.Errorf("400 bytes that are no source: %d, %d", e, at)
	}
}

func refusesLongSource(t *testing.T, source string) {
	t.Helper()
	if e, at := brew.Scan(source); e != brew.ErrLong || at != 0 {
		t.Errorf("Scan of %d bytes: %d, %d", len(source), e, at)
	}
	if image, e := brew.Compile(source); e != brew.ErrLong || image != "" {
		t.Errorf("Compile of %d bytes: %q, %d", len(source), image, e)
	}
	if out, value, e := brew.Eval(source, "", 9); e != brew.ErrLong || out != "" || value != 0 {
		t.Errorf("Eval of %d bytes: %q, %d, %d", len(source), out, value, e)
	}
	work := func() {
		brew.Scan(source)
		brew.Compile(source)
		brew.Eval(source, source, 9)
	}
	if n := testing.AllocsPerRun(1, work); n != 0 {
		t.Errorf("P1: other work on %d bytes was done ahead of a look at the length", len(source))
	}
}

// scanAll looks at Scan, and at the error that Eval and Compile take from it.
func scanAll(t *testing.T, list []verdict) {
	t.Helper()
	for _, c := range list {
		if e, at := brew.Scan(c.image); e != c.e || at != c.at {
			t.Errorf("Scan(%q) = %d, %d, want %d, %d", c.image, e, at, c.e, c.at)
		}
		image, e := brew.Compile(c.image)
		if e != c.e || (image == "") != (c.e != brew.OK) {
			t.Errorf("Compile(%q) = %q, %d, want the error %d", c.image, image, e, c.e)
		}
		want := c.e
		if want == brew.OK {
			want = brew.ErrFuel
		}
		if out, value, e := brew.Eval(c.image, "", 0); out != "" || value != 0 || e != want {
			t.Errorf("Eval(%q) = %q, %d, %d, want the error %d", c.image, out, value, e, want)
		}
	}
}

func TestP14Links(t *testing.T) {
	scanAll(t, []verdict{
		{"-.;ii.;;:cA0z0.", brew.ErrLink, 9},
		{"-.;ii.;;:+1cA0z0.", brew.ErrLink, 11},
		{"-.;ii.;A0:l1.;:cA0z0.", brew.OK, 0},
		{"-.;ii.;A0:cA0l0l1.;:0.", brew.OK, 0},
		// The first in the text, be it worked out or not.
		{"-.;ii.ii.;A0:l1.;:i0cA1z0cA1z1.", brew.ErrLink, 20},
		{"-.;ii.ii.;A0:cA1l0l1.;:cA1z0.", brew.ErrLink, 13},
		{"-.;ii.ii.;A0:cA1l0l1.A1:cA0l0l1.;:0.", brew.OK, 0},
		{"-.;ii.ii.;A0:cA0l0cA1l0l1.;:0.", brew.ErrLink, 18},
		// A class has its own bodies and its ancestors', and no others.
		{"-.A.B.C.;ii.;A0:l1.;:cD0nD0.", brew.OK, 0},
		{"-.A.B.C.;ii.;B0:l1.;:cB0nD0.", brew.OK, 0},
		{"-.A.B.C.;ii.;B0:l1.;:cA0nD0.", brew.ErrLink, 21},
		{"-.A.A.;ii.;B0:l1.;:cC0nC0.", brew.ErrLink, 19},
		{"-.-.;ii.;B0:l1.;:cA0z0.", brew.ErrLink, 17},
		// What comes first among the errors, wherever it stands.
		{"-.;ii.;;:cA0z0x", brew.ErrForm, 14},
		{"-.;ii.ii.;A0:z.;:cA1z0.", brew.ErrLink, 17},
		{"-.;ii.;A0:z.;:z.", brew.ErrType, 0},
	})
}

func TestP15Nodes(t *testing.T) {
	for _, source := range []string{
		";;;:0.", ";;;:9.", ";;;:r.", ";;;i:l0.", ";;;:w1.", ";;;i:s01.",
		";;;:+12.", ";;;:-12.", ";;;:*12.", ";;;:/12.", ";;;:<12.", ";;;:=12.",
		";;;:ezz.", "-.-.;;;:enAnB.", "-.;;;:enAz.", "-.;;;:eznA.", "-.;;;A:el0l0.",
		"-i.;;;:gA0nA.", "-i.;;;:gA0z.", "-i.A.;;;:gA0nB.", "-A.;;;:egA0gA0nAz.", "-A.;;;A:s0gA0z.",
		"-i.;;;:pA0nA1.", "-i.;;;:pA0z1.", "-A.A.;;;:pA0nBnB.", "-A.A.;;;:pB0nBz.",
		"-.A.;ii.;A0:l1.;:cA0nB1.", "-.A.;ii.;A0:l1.;:cA0z1.", "-.A.;Ai.;A0:0.;:cA0nAnB.", "-.A.;Ai.;A0:0.;:cB0nBz.",
		"-i.A.;iB.;A0:z.;:gB0cA0nA0.", "-i.A.;iB.;A0:z.;:gA0cA0nA0.",
		"-i.A.;;;:gB0xBnA.", "-i.;;;:gA0xAz.", "-i.-.;;;:gA0xAnB.",
		"-.A.;;;A:s0nB.", "-.;;;A:s0z.", "-.A.B.;;;A:s0nC.", "-.;;;AA:s0l1.",
		// The first part of `,`, and the second of `o`, is of any type; so is that of `,`, if it fits elsewhere.
		";;;:,z1.", "-.;;;:,nA1.", ";;;:,,z1,12.", ";;;:e,1zz.", "-.;;;A:s0,1nA.", ";;;:o1z.", "-.;;;:o1nA.", ";;;:o12.",
		// `i` has the meeting of its second and third part.
		";;;:i123.", ";;;:ei1zzz.", "-.;;;:ei1znAz.", "-.;;;:ei1nAzz.", "-i.;;;:gA0i1znA.", "-i.;;;:gA0i1nAz.",
		"-.A.A.;;;A:s0i1nBnC.", "-i.A.A.;;;:gA0i1nBnC.", "-i.A.A.;;;:gB0i1nBnB.", "-i.A.B.;;;:gB0i1nCnB.", "-i.A.B.;;;:gB0i1nBnC.",
		"-.A.B.B.;;;B:s0i1nCnD.", "-.A.B.A.;;;A:s0i1nCnD.",
		// A body answers what fits its method's answer.
		"-.A.;AA.;A0:l0.;:0.", "-.A.;AA.;B0:l0.;:0.", "-.;AA.;A0:z.;:0.", "-.;ii.;A0:l1.;:0.", "-.;Ai.;A0:el1z.;:0.",
		"-.A.;iA.;A0:i1nBz.;:0.", "-.-.;AB.;A0B:l2.;:0.",
	} {
		scanAll(t, []verdict{{source, brew.OK, 0}})
	}
	for _, source := range []string{
		";;;:z.", "-.;;;:nA.", "-.;;;A:l0.", ";;;:wz.", "-.;;;:wnA.",
		";;;:+1z.", ";;;:+z1.", ";;;:-1z.", ";;;:-z1.", ";;;:*1z.", ";;;:*z1.", ";;;:/1z.", ";;;:/z1.",
		";;;:<1z.", ";;;:<z1.", ";;;:=1z.", ";;;:=z1.", ";;;:=zz.", "-.;;;:=nA1.",
		";;;:e11.", ";;;:e1z.", ";;;:ez1.", "-.;;;:enA1.",
		"-i.;;;:gA01.", "-i.-.;;;:gA0nB.", "-i.A.;;;:gB0nA.", "-A.;;;:gA0nA.", "-A.;;;:+1gA0nA.",
		"-i.;;;:pA011.", "-i.;;;:pA0nAz.", "-i.;;;:pA0nAnA.", "-A.;;;:pA0nA1.", "-A.-.;;;:pA0nAnB.", "-i.A.;;;:pB0nA1.",
		"-.;;;:xAz.", "-.;;;:exA1z.", "-.-.;;;:xBnA.",
		";;;i:s0z.", "-.;;;i:s0nA.", "-.;;;A:s01.", "-.A.;;;B:s0nA.", "-.-.;;;A:s0nB.", "-.A.;;;BA:s0l1.", "-.;;;A:es0zz.",
		// A local has the type of its own, whatever was laid in it.
		"-i.A.;;;A:,s0nBgB0l0.",
		";;;:,1z.", "-.;;;:,1nA.", ";;;:,+1z1.", ";;;:,1+1z.",
		";;;:iz11.", "-.;;;:inA11.", ";;;:i1zz.", ";;;:i11z.", ";;;:i1z1.", "-.;;;:i11nA.", "-.;;;:i1nA1.",
		"-.-.;;;:ei1nAnBz.", "-.-.;;;:,i1nAnB0.", "-.;;;:,i1nA10.", ";;;:,i1z10.", "-.A.A.;;;B:s0i1nBnC.", "-.A.;;;B:s0i1nBnA.",
		";;;:i+1z11.", ";;;:i1+1z1.", ";;;:i11+1z.", ";;;:,o1i1z10.",
		";;;:oz1.", "-.;;;:onA1.", ";;;:o1+1z.", ";;;:o+1z1.", ";;;:eo11z.",
		";;;:ew1z.", "-i.;;;:epA0nA1z.", ";;;:w+1z.", "-i.;;;:pA0+1z1.", "-i.;;;:gA0+1z.",
	} {
		scanAll(t, []verdict{{source, brew.ErrType, 0}})
	}
}

func TestP15FirstBody(t *testing.T) {
	bodies := strings.ReplaceAll(full, "l1t.", "l1.")
	scanAll(t, []verdict{
		{"-.;ii.ii.;A0:l1.A1:l1.;:0.", brew.OK, 0},
		{"-.;ii.ii.;A0:l0.A1:l1.;:0.", brew.ErrType, 0},
		{"-.;ii.ii.;A0:l1.A1:l0.;:0.", brew.ErrType, 1},
		{"-.;ii.ii.;A0:l1.A1:l1.;:z.", brew.ErrType, 2},
		{"-.;ii.ii.;A0:l1.A1:l0.;:z.", brew.ErrType, 1},
		{bodies + ";:0.", brew.OK, 0},
		{bodies + ";:z.", brew.ErrType, 6},
		{"-.A.;iB.;A0:nA.;:0.", brew.ErrType, 0},
		{"-.A.;iB.;A0:i1nAz.;:0.", brew.ErrType, 0},
		{"-.;iA.;A0:1.;:0.", brew.ErrType, 0},
		// The method called tells the types, though its body be an ancestor's.
		{"-.A.;Ai.;A0:0.;:cB0nB1.", brew.ErrType, 1},
		{"-.A.;Bi.;A0:0.;:cB0nBnA.", brew.ErrType, 1},
		{"-.A.;Ai.;A0:0.B0:1.;:cB0nAnB.", brew.ErrType, 2},
		{"-.Ai.;iA.;A0:l0.;:gB0cB0nB0.", brew.ErrType, 1},
		{"-.Ai.;iA.;A0:l0.;:gB0xBcB0nB0.", brew.OK, 0},
		{"-.;iA.;A0:z.;:cA0z0.", brew.ErrType, 1},
		{"-.;ii.;A0:0.;:cA0z1.", brew.OK, 0},
		{"-.;ii.;A0:0.;:cA011.", brew.ErrType, 1},
		{"-.;ii.;A0:0.;:cA0zz.", brew.ErrType, 1},
	})
}
