package brew_test

import (
	"strings"
	"testing"

	"brew/brew"
)

type worked struct {
	source string
	input  string
	fuel   int
	out    string
	value  int
	e      brew.Errno
}

func evalAll(t *testing.T, list []worked) {
	t.Helper()
	for _, c := range list {
		if out, value, e := brew.Eval(c.source, c.input, c.fuel); out != c.out || value != c.value || e != c.e {
			t.Errorf("Eval(%q, %q, %d) = %q, %d, %d, want %q, %d, %d", c.source, c.input, c.fuel, out, value, e, c.out, c.value, c.e)
		}
	}
}

func TestP16Limits(t *testing.T) {
	source := ";;;:7."
	full := strings.Repeat("x", 40)
	evalAll(t, []worked{
		{source, full, 4000, "", 7, brew.OK},
		{source, "", 1, "", 7, brew.OK},
		{source, full + "x", 4000, "", 0, brew.ErrLong},
		{source, strings.Repeat("x", 1<<20), 9, "", 0, brew.ErrLong},
		{source, "", -1, "", 0, brew.ErrLong},
		{source, "", 4001, "", 0, brew.ErrLong},
		{source, "", 1<<63 - 1, "", 0, brew.ErrLong},
		{source, "", -1 << 63, "", 0, brew.ErrLong},
	})
	for _, c := range []struct {
		source string
		e      brew.Errno
	}{
		{strings.Repeat("x", 401), brew.ErrLong},
		{strings.Repeat("x", 400), brew.ErrForm},
		{"", brew.ErrForm},
		{";;;:,w17", brew.ErrForm},
		{";;;:,w17.x", brew.ErrForm},
		{"-.;ii.;;:,w1cA0z0.", brew.ErrLink},
		{";;;:,w1z.", brew.ErrType},
	} {
		evalAll(t, []worked{
			{c.source, "", 9, "", 0, c.e},
			{c.source, "", 0, "", 0, c.e},
			{c.source, "", 4001, "", 0, brew.ErrLong},
			{c.source, "", -1, "", 0, brew.ErrLong},
			{c.source, strings.Repeat("x", 41), 9, "", 0, brew.ErrLong},
		})
	}
}

// TestP16Nodes has what each node comes to, with fuel enough.
func TestP16Nodes(t *testing.T) {
	least := ";;;i:,s0*rr,s0*l0l0,s0*l08"
	list := []worked{
		{source: ";;;:0."}, {source: ";;;:9.", value: 9},
		{source: ";;;:r.", value: -1}, {source: ";;;:+rr.", input: "\x80\x7f", value: 255}, {source: ";;;:,rr.", input: "a", value: -1},
		{source: ";;;i:l0."}, {source: "-.;;;A:el0z.", value: 1}, {source: ";;;ii:,s15l1.", value: 5}, {source: ";;;ii:,s15l0."},
		{source: ";;;:+95.", value: 14}, {source: ";;;:-59.", value: -4}, {source: ";;;:*95.", value: 45},
		{source: ";;;:/95.", value: 1}, {source: ";;;:/-072.", value: -3}, {source: ";;;:/7-02.", value: -3}, {source: ";;;:/-07-02.", value: 3},
		{source: ";;;:<59.", value: 1}, {source: ";;;:<95."}, {source: ";;;:<55."}, {source: ";;;:=55.", value: 1}, {source: ";;;:=59."},
		{source: ";;;:ezz.", value: 1}, {source: "-.;;;:enAz."}, {source: "-.;;;:enAnA."}, {source: "-.;;;A:,s0nAel0l0.", value: 1},
		{source: "-.A.;;;B:,s0nBexAl0l0.", value: 1}, {source: "-.;;;:exAzz.", value: 1}, {source: "-.A.;;;B:,s0nBexBxAl0l0.", value: 1},
		{source: "-i.;;;:gA0nA."}, {source: "-A.;;;:egA0nAz.", value: 1},
		{source: "-ii.;;;A:,s0nA,pA1l04,wgA0l0gA1l0.", out: "0 ", value: 4},
		{source: "-i.Ai.;;;B:,s0nB,pA0l04,pB1l05,wgB0l0gB1l0.", out: "4 ", value: 5},
		{source: "-A.;;;AA:,s0nA,pA0l0l0,s1gA0l0el0l1.", value: 1},
		// These come to 0.
		{source: ";;;:+1w5.", out: "5 ", value: 1}, {source: ";;;i:+1s05.", value: 1},
		{source: "-i.;;;:+1pA0nA5.", value: 1}, {source: ";;;:+1o05.", value: 1},
		// What the second comes to.
		{source: ";;;:,w1,w2,w34.", out: "1 2 3 ", value: 4}, {source: ";;;:,,,w1w2w34.", out: "1 2 3 ", value: 4}, {source: ";;;:w-01.", out: "-1 "},
		// Only one of the second and third part is worked out.
		{source: ";;;:i1,w12,w34.", out: "1 ", value: 2}, {source: ";;;:i0,w12,w34.", out: "3 ", value: 4}, {source: ";;;:i-01,w12,w34.", out: "1 ", value: 2},
		{source: "-i.;;;:gA0i1nAz."}, {source: "-i.;;;:gA0i0znA."},
		// The number 0 ends a loop, and no other.
		{source: ";;;:,orw74.", input: "a\xff\x01\x00b", out: "7 7 7 ", value: 4},
		{source: ";;;i:,s0-03,ol0,wl0s0+l01l0.", out: "-3 -2 -1 "},
		{source: ";;;i:o<l03,o<5rw8,wl0s0+l01.", input: "\x06\x00\x09\x08\x00\x00", out: "8 0 8 8 1 2 "},
		// Numbers wrap around: local 0 is the least one.
		{source: least + "l0.", input: "\x80\x80", value: -1 << 31}, {source: least + "-l01.", input: "\x80\x80", value: 1<<31 - 1},
		{source: least + "+l0l0.", input: "\x80\x80"}, {source: least + "-0l0.", input: "\x80\x80", value: -1 << 31},
		{source: least + "*l02.", input: "\x80\x80"}, {source: least + "*l0-l01.", input: "\x80\x80", value: -1 << 31},
		{source: least + "/l0-01.", input: "\x80\x80", value: -1 << 31}, {source: least + "<l0-l01.", input: "\x80\x80", value: 1},
	}
	for i := range list {
		list[i].fuel = 4000
	}
	evalAll(t, list)
}

func TestP17Order(t *testing.T) {
	evalAll(t, []worked{
		// From left to right, and ahead of what is done with them.
		{";;;:-rr.", "\x09\x02", 99, "", 7, brew.OK},
		{";;;:/rr.", "\x09\x02", 99, "", 4, brew.OK},
		{";;;:<rr.", "\x02\x09", 99, "", 1, brew.OK},
		{";;;:+,w12,w34.", "", 99, "1 3 ", 6, brew.OK},
		{";;;:/,w12,w30.", "", 99, "1 3 ", 0, brew.ErrDiv},
		{";;;:w,w12.", "", 99, "1 2 ", 0, brew.OK},
		{";;;i:+l0,s05l0.", "", 99, "", 5, brew.OK},
		{";;;i:-,s05l0,s07l0.", "", 99, "", -2, brew.OK},
		{"-.;;;:e,w1nA,w2z.", "", 99, "1 2 ", 0, brew.OK},
		{"-i.;;;:gA0,w1z.", "", 99, "1 ", 0, brew.ErrNull},
		{"-i.;;;:pA0,w1z,w23.", "", 99, "1 2 ", 0, brew.ErrNull},
		{"-i.;;;A:pA0l0,s0nA3.", "", 99, "", 0, brew.ErrNull},
		{"-i.;;;A:,s0nA,pA0l0,s0z3el0z.", "", 99, "", 1, brew.OK},
		{"-.A.;;;:exB,w1nA,w2z.", "", 99, "1 ", 0, brew.ErrCast},
		{"-.;ii.;A0:,w3l1.;:cA0,w1nA,w24.", "", 99, "1 2 3 ", 4, brew.OK},
		{"-.;ii.;A0:,w3l1.;:cA0,w1z,w24.", "", 99, "1 2 ", 0, brew.ErrNull},
		// Each as often as the table says.
		{";;;i:o,w1<l02,w2s0+l01.", "", 99, "1 2 1 2 1 ", 0, brew.OK},
		{";;;:o,w10w2.", "", 99, "1 ", 0, brew.OK},
		{";;;:i,w10w2w3.", "", 99, "1 3 ", 0, brew.OK},
		{";;;:i,w11w2w3.", "", 99, "1 2 ", 0, brew.OK},
		// An error ends the work wherever it comes.
		{";;;:,/10w1.", "", 99, "", 0, brew.ErrDiv},
		{";;;:+/10,w11.", "", 99, "", 0, brew.ErrDiv},
		{";;;:i/10w1w2.", "", 99, "", 0, brew.ErrDiv},
		{";;;:i1/10w2.", "", 99, "", 0, brew.ErrDiv},
		{";;;:i0w1/10.", "", 99, "", 0, brew.ErrDiv},
		{";;;:o/10w1.", "", 99, "", 0, brew.ErrDiv},
		{";;;:o1,w1/10.", "", 99, "1 ", 0, brew.ErrDiv},
		{";;;:o/1rw1.", "\x01\x00", 99, "1 ", 0, brew.ErrDiv},
		{";;;i:,s0/10w1.", "", 99, "", 0, brew.ErrDiv},
		{"-.;ii.;A0:,w1/1l1.;:,w2,cA0nA0w3.", "", 99, "2 1 ", 0, brew.ErrDiv},
	})
}

func TestP17Errors(t *testing.T) {
	// Method 0 calls itself as often as its argument says, and then does something.
	deep := "-.A.;ii.;A0:il1cA0l0-l11"
	evalAll(t, []worked{
		{"-i.;;;:gA0z.", "", 99, "", 0, brew.ErrNull},
		{"-i.;;;A:gA0l0.", "", 99, "", 0, brew.ErrNull},
		{"-i.;;;:pA0z1.", "", 99, "", 0, brew.ErrNull},
		{"-A.;;;:egA0gA0nAz.", "", 99, "", 0, brew.ErrNull},
		{"-.;ii.;A0:l1.;:cA0z1.", "", 99, "", 0, brew.ErrNull},
		{";;;:/00.", "", 99, "", 0, brew.ErrDiv},
		{";;;:/90.", "", 99, "", 0, brew.ErrDiv},
		{"-.A.A.;;;:exCnBz.", "", 99, "", 0, brew.ErrCast},
		{"-.A.A.;;;:exCnAz.", "", 99, "", 0, brew.ErrCast},
		{"-.A.B.;;;:+exAnCz+exBnCzexCnCz.", "", 99, "", 0, brew.OK},
		// Twelve bodies may have begun, the main one among them.
		{deep + "7.;:cA0nAr.", "\x0a", 400, "", 7, brew.OK},
		{deep + "7.;:cA0nAr.", "\x0b", 400, "", 0, brew.ErrDeep},
		// The thirteenth is looked at behind its parts, and behind null.
		{deep + "cA0l0,w50.;:cA0nAr.", "\x0a", 400, "5 ", 0, brew.ErrDeep},
		{deep + "cA0,w4l0/10.;:cA0nAr.", "\x0a", 400, "4 ", 0, brew.ErrDiv},
		{deep + "cA0z,w50.;:cA0nAr.", "\x0a", 400, "5 ", 0, brew.ErrNull},
		{deep + "cA0z,w50.;:cA0nAr.", "\x09", 400, "5 ", 0, brew.ErrNull},
		// Bodies that have ended do not count.
		{deep + "7.;Ai:,s0nA,o<l15,wcA0l09s1+l11l1.", "", 4000, "7 7 7 7 7 ", 5, brew.OK},
		{"-.;ii.;A0:l1.;:+cA0nA1+cA0nA1+cA0nA1+cA0nA1+cA0nA11.", "", 400, "", 6, brew.OK},
		// There is no end to memory.
		{"-ii.Aii.Bii.Cii.;;;iD:,o<l0*99,s1nDs0+l01l0.", "", 4000, "", 81, brew.OK},
		{"-A.;;;iAA:,o<l0*99,,,s1nApA0l1l2s2l1s0+l01l0.", "", 4000, "", 81, brew.OK},
	})
}

func TestP17Calls(t *testing.T) {
	classes := "-.A.B.-.;ii.iA.;A0:1.C0:3.A1:l0.D0:4.;"
	evalAll(t, []worked{
		{classes + "A:,s0nAcA0l00.", "", 99, "", 1, brew.OK},
		{classes + "A:,s0nBcA0l00.", "", 99, "", 1, brew.OK},
		{classes + "A:,s0nCcA0l00.", "", 99, "", 3, brew.OK},
		{classes + ":cB0nC0.", "", 99, "", 3, brew.OK},
		{classes + ":cB0nB0.", "", 99, "", 1, brew.OK},
		{classes + ":cA0cA1nC00.", "", 99, "", 3, brew.OK},
		{classes + ":cD0nD0.", "", 99, "", 4, brew.OK},
		// A called body's locals: the object, the argument, then 0 and null.
		{"-i.;ii.;A0iA:,wgA0l0,wl1,wl2,wel3zl1.;A:,s0nA,pA0l08cA0l05.", "", 99, "8 5 0 1 ", 5, brew.OK},
		{"-i.;AA.;A0:i1l1l0.;A:,s0nAecA0nAl0l0.", "", 99, "", 1, brew.OK},
		// Each call has locals of its own.
		{"-.;ii.;A0i:,wl2,s2+l11,i<l12cA0l0l20,wl1l2.;:cA0nA0.", "", 99, "0 0 0 2 1 0 ", 1, brew.OK},
		{"-.;ii.;A0:,s19l1.;i:,s04,wcA0nAl0l0.", "", 99, "9 ", 4, brew.OK},
		// What the object holds outlives the call.
		{"-i.;ii.;A0:pA0l0l1.;A:,s0nA,wcA0l06gA0l0.", "", 99, "0 ", 6, brew.OK},
	})
}

// TestP18 has for each source the least fuel with which it ends; with less it ends by ErrFuel.
func TestP18(t *testing.T) {
	for _, c := range []struct {
		source string
		input  string
		steps  int
	}{
		{";;;:7.", "", 1}, {";;;:r.", "", 1}, {";;;i:l0.", "", 1}, {";;;:ezz.", "", 3}, {"-.;;;:enAnA.", "", 3},
		{";;;:+12.", "", 3}, {";;;:+1*23.", "", 5}, {";;;:w1.", "", 2}, {";;;i:s01.", "", 2}, {";;;:,12.", "", 3},
		{"-i.;;;:gA0nA.", "", 2}, {"-i.;;;:pA0nA1.", "", 3}, {"-.;;;:exAnAz.", "", 4},
		// Of `i` only one part is worked out.
		{";;;:i1+23*4*56.", "", 5}, {";;;:i0+23*4*56.", "", 7},
		// Of `o` each part every time: the first one once more.
		{";;;:o0+12.", "", 2}, {";;;:or+12.", "\x01\x00", 6}, {";;;:or+12.", "\x01\x01\x00", 10},
		{";;;i:o<l05s0+l01.", "", 1 + 6*3 + 5*4},
		// A call is a step, and so are the nodes of the body.
		{"-.;ii.;A0:7.;:cA0nA1.", "", 4}, {"-.;ii.;A0:+l1l1.;:cA0nA1.", "", 6}, {"-.;ii.;A0:l1.;:cA0nAcA0nA1.", "", 7},
		// What ends the work by another error begins no node.
		{";;;:/10.", "", 3}, {";;;:+/101.", "", 4}, {"-i.;;;:gA0z.", "", 2}, {"-i.;;;:pA0z1.", "", 3}, {"-.A.;;;:exBnAz.", "", 3},
		{"-.;ii.;A0:7.;:cA0z1.", "", 3}, {"-.;ii.;A0:cA0l0l1.;:cA0nA1.", "", 36},
	} {
		for fuel := 0; fuel < c.steps+9; fuel++ {
			if _, value, e := brew.Eval(c.source, c.input, fuel); (e == brew.ErrFuel) != (fuel < c.steps) || e != brew.OK && value != 0 {
				t.Errorf("Eval(%q, %q, %d) = %d, %d, but it takes %d steps", c.source, c.input, fuel, value, e, c.steps)
			}
		}
	}
	evalAll(t, []worked{
		{";;;:o1w7.", "", 4000, strings.Repeat("7 ", 1333), 0, brew.ErrFuel},
		{";;;:o1w7.", "", 3, "", 0, brew.ErrFuel},
		{";;;:o1w7.", "", 4, "7 ", 0, brew.ErrFuel},
	})
}

// TestP19 works out with every fuel up to where all work has ended.
func TestP19(t *testing.T) {
	for _, c := range []worked{
		{source: ";;;i:,o<l04,wl0s0+l01l0.", out: "0 1 2 3 ", value: 4, fuel: 46},
		{source: "-.;ii.;A0:,wl1cA0l0+l11.;:cA0nA1.", out: "1 2 3 4 5 6 7 8 9 10 11 ", e: brew.ErrDeep, fuel: 91},
		{source: "-iA.;;;A:,s0nA,w5,pA1l0l0,wgA0gA1gA1l0,pA0l06/70.", out: "5 0 ", e: brew.ErrDiv, fuel: 23},
		{source: "-A.;;;A:,w1,s0nAegA0gA0l0z.", out: "1 ", e: brew.ErrNull, fuel: 10},
	} {
		last := ""
		for fuel := 0; fuel <= c.fuel+20; fuel++ {
			out, value, e := brew.Eval(c.source, "", fuel)
			if fuel >= c.fuel && (out != c.out || value != c.value || e != c.e) {
				t.Errorf("Eval(%q) with fuel %d: %q, %d, %d", c.source, fuel, out, value, e)
			}
			if fuel < c.fuel && (e != brew.ErrFuel || value != 0) || !strings.HasPrefix(out, last) {
				t.Errorf("Eval(%q) with fuel %d: %q, %d, %d", c.source, fuel, out, value, e)
			}
			last = out
		}
	}
}
