package brew_test

import (
	"strings"
	"testing"

	"brew/brew"
)

// compiled answers the image of a source, at which Check must answer OK (P20).
func compiled(t *testing.T, source string) string {
	t.Helper()
	image, e := brew.Compile(source)
	if e != brew.OK {
		t.Fatalf("Compile(%q) = %q, %d", source, image, e)
	}
	if e, at := brew.Check(image); e != brew.OK || at != 0 {
		t.Fatalf("P20: Compile(%q) = %q, at which Check answers %d, %d", source, image, e, at)
	}
	return image
}

func TestP20ErrorOfScan(t *testing.T) {
	for _, c := range []struct {
		source string
		e      brew.Errno
	}{
		{strings.Repeat("x", 401), brew.ErrLong}, {strings.Repeat("x", 400), brew.ErrForm}, {"", brew.ErrForm},
		{";;;:+34", brew.ErrForm}, {";;;:k3k4+t.", brew.ErrForm}, {";;;:0.0", brew.ErrForm},
		{"-.;ii.;;:cA0z0.", brew.ErrLink}, {";;;:z.", brew.ErrType}, {"-.;ii.;A0:z.;:0.", brew.ErrType},
	} {
		if image, e := brew.Compile(c.source); image != "" || e != c.e {
			t.Errorf("Compile(%q) = %q, %d, want %d", c.source, image, e, c.e)
		}
	}
}

// TestP20Greatest has bodies of 24 nodes, alone and in as many bodies as there can be.
func TestP20Greatest(t *testing.T) {
	for _, node := range []string{
		strings.Repeat("w", 23) + "1", "w" + strings.Repeat("o", 11) + strings.Repeat("1", 12), "w" + strings.Repeat("o0", 11) + "1",
		"w" + strings.Repeat(",", 11) + strings.Repeat("1", 12), "w" + strings.Repeat("+1", 11) + "1",
		"ww" + strings.Repeat("i", 7) + strings.Repeat("1", 15), "ww" + strings.Repeat("i01", 7) + "1", "o1" + strings.Repeat("i12", 7) + "0",
		strings.Repeat("s1", 23) + "1",
	} {
		alone := ";;;ii:" + node + "."
		image := compiled(t, alone)
		sameAsSource(t, alone, image, "", 100, 40)
		if everywhere := strings.ReplaceAll(full, "l1t", node) + ";ii:" + node + "."; len(everywhere) <= 400 {
			compiled(t, everywhere)
		}
	}
	compiled(t, longSource(400))
}

// sameAsSource is P21, for one fuel.
func sameAsSource(t *testing.T, source string, image string, input string, cells int, fuel int) (brew.Errno, brew.Errno) {
	t.Helper()
	ends := brew.ErrFuel
	faulty := func(way string, out string, value int, e brew.Errno, got string, answer int, f brew.Errno) {
		t.Helper()
		t.Fatalf("P21: %s, %q, %q, input %q, cells %d, fuel %d: Eval %q, %d, %d, Run %q, %d, %d",
			way, source, image, input, cells, fuel, out, value, e, got, answer, f)
	}
	if 8*fuel+8 <= 4000 {
		out, value, e := brew.Eval(source, input, fuel)
		got, answer, f := brew.Run(image, input, cells, 8*fuel+8)
		fine := out == got && value == answer && e == f
		if f == brew.ErrMemory {
			fine = strings.HasPrefix(out, got) || strings.HasPrefix(got, out)
		} else if e == brew.ErrFuel {
			fine = strings.HasPrefix(got, out)
		}
		if !fine {
			faulty("8f+8", out, value, e, got, answer, f)
		}
		ends = f
	}
	if 100*fuel+100 <= 4000 {
		got, answer, f := brew.Run(image, input, cells, fuel)
		out, value, e := brew.Eval(source, input, 100*fuel+100)
		fine := out == got && value == answer && e == f
		if f == brew.ErrFuel || f == brew.ErrMemory {
			fine = strings.HasPrefix(out, got)
		}
		if !fine {
			faulty("100f+100", out, value, e, got, answer, f)
		}
		return ends, f
	}
	return ends, brew.ErrFuel
}

// TestP21 has sources that end, without an end to memory, by what is told: so must their images, with 100 cells.
func TestP21(t *testing.T) {
	for _, c := range []worked{
		{source: ";;;:+34.", value: 7},
		{source: ";;;:,w1,w23.", out: "1 2 ", value: 3},
		{source: ";;;:+-95*rr.", input: "\x03\x04", value: 16},
		{source: ";;;:/,w19,w20.", out: "1 2 ", e: brew.ErrDiv},
		{source: ";;;:+<12=12.", value: 1},
		{source: ";;;iii:,s12,s03,wl1+s25l0.", out: "2 ", value: 3},
		// Each part of `i` is followed by what stands behind the whole.
		{source: ";;;:+1i0w1,w24.", out: "2 ", value: 5}, {source: ";;;:+1i1w1,w24.", out: "1 ", value: 1},
		{source: ";;;:ii01234.", value: 3}, {source: ";;;:ii10234.", value: 4}, {source: ";;;:i1i0345.", value: 4}, {source: ";;;:i05i134.", value: 3},
		// A loop within a loop, in a condition, and in a part of something greater.
		{source: ";;;ii:o<l03,,s10o<l12,wl1s1+l11s0+l01.", out: "0 1 0 1 0 1 "},
		{source: ";;;i:+9o,o<l03s0+l01<l05,wl0s0+l01.", out: "3 4 ", value: 9},
		{source: ";;;:orw1.", input: "\x01\x02", out: strings.Repeat("1 ", 166), e: brew.ErrFuel},
		{source: ";;;:,orw14.", input: "\x01\x02\x00", out: "1 1 ", value: 4},
		// A value that nothing takes is dropped, whatever its type.
		{source: "-.;;;:,z,nA,w1,ezz4.", out: "1 ", value: 4},
		{source: "-.;;;i:,o<l03,s0+l01nA,o<l05,s0+l01zl0.", value: 5},
		// What lies in a local, or comes from a way, has a narrower type in the image than in the source.
		{source: "-i.;;;A:,s0z,i0s0nA1,s0nAgA0l0."},
		{source: "-i.;;;A:,s0zgA0l0.", e: brew.ErrNull},
		{source: "-i.A.A.;;;A:,s0i0nBnC,pA0l07gA0l0.", value: 7},
		{source: "-i.A.A.;;;Ai:,o<l14,i<l12s0nBs0nCs1+l11exBl0z.", e: brew.ErrCast},
		{source: "-i.A.A.;;;Ai:,o<l14,i<l12s0nBs0nCs1+l11exCl0z."},
		{source: "-.A.;ii.;A0:l1.B0:*l1l1.;A:,s0nA,wcA0l05,s0nBcA0l05.", out: "5 ", value: 25},
		{source: "-i.A.;AA.;A0:l1.;B:,s0nB,pA0cA0l0l08gB0l0.", value: 8},
		{source: "-.;iA.;A0:il1cA0l0-l11l0.;A:,s0nAel0cA0l05.", value: 1},
		{source: "-.;ii.;A0:il1+l1cA0l0-l110.;:cA0nA9.", value: 45},
		{source: "-.;ii.;A0:il1+l1cA0l0-l110.;:cA0nA+92.", e: brew.ErrDeep},
		{source: "-.;ii.;A0i:,s2l1,o<0l2,wl2s2-l21l1.;:cA0nAcA0nA3.", out: "3 2 1 3 2 1 ", value: 3},
	} {
		out, value, e := brew.Eval(c.source, c.input, 499)
		if out != c.out || value != c.value || e != c.e {
			t.Errorf("Eval(%q) = %q, %d, %d", c.source, out, value, e)
		}
		image := compiled(t, c.source)
		for fuel := 0; fuel < 500; fuel++ {
			sameAsSource(t, c.source, image, c.input, 100, fuel)
		}
		if got, answer, f := brew.Run(image, c.input, 100, 4000); !strings.HasPrefix(got, out) || e != brew.ErrFuel && got != out || answer != value || f != e {
			t.Errorf("of %q, %q: %q, %d, %d", c.source, image, got, answer, f)
		}
	}
}

// TestP21Memory has images for which there are too few cells.
func TestP21Memory(t *testing.T) {
	for _, source := range []string{
		"-.;;;:,w1,nA,w22.", "-i.;;;A:,w1,s0nA,w2,s0nA,w3gA0l0.", "-A.;;;A:o1,w1,s0nA0.", "-A.;;;AA:o1,w1,,s0nApA0l0l1s1l0.",
		"-.;ii.;A0:,w2,nAcA0nA1.;:,w1cA0nA1.", "-i.;;;A:,w1,s0nA,w2/10.", "-ii.;;;i:,o<l04,s0+l01nAo1w5.",
	} {
		image := compiled(t, source)
		memory := 0
		for cells := 0; cells < 12; cells++ {
			for fuel := 0; fuel < 60; fuel++ {
				if first, _ := sameAsSource(t, source, image, "", cells, fuel); first == brew.ErrMemory {
					memory++
				}
			}
		}
		if memory == 0 {
			t.Errorf("no run of %q is short of memory", source)
		}
	}
}

func TestP20AndP21AtRandom(t *testing.T) {
	d := &dice{8}
	count := &told{}
	for round := 0; round < 2000; round++ {
		m := d.typedSource()
		source := m.text()
		image := compiled(t, source)
		for try := 0; try < 4; try++ {
			input, cells := d.input(), 100
			if try == 3 {
				cells = d.below(20)
			}
			for _, fuel := range []int{d.below(40), d.below(40), d.below(500)} {
				first, second := sameAsSource(t, source, image, input, cells, fuel)
				count.ends[first]++
				count.ends[second]++
			}
			out, _, _ := brew.Run(image, input, cells, 100)
			count.numbers += strings.Count(out, " ")
		}
	}
	count.enough(t, 100)
	if count.ends[brew.ErrMemory] < 100 {
		t.Errorf("the runs tell too little of memory: %+v", count)
	}
}
