package brew_test

import (
	"testing"

	"brew/brew"
)

type verdict struct {
	image string
	e     brew.Errno
	at    int
}

func checkAll(t *testing.T, list []verdict) {
	t.Helper()
	for _, c := range list {
		if e, at := brew.Check(c.image); e != c.e || at != c.at {
			t.Errorf("Check(%q) = %d, %d, want %d, %d", c.image, e, at, c.e, c.at)
		}
		s, e := brew.Types(c.image)
		if e != c.e || (s == "") != (c.e != brew.OK) {
			t.Errorf("Types(%q) = %q, %d, want the error %d", c.image, s, e, c.e)
		}
	}
}

func TestP4Links(t *testing.T) {
	checkAll(t, []verdict{
		{";;;:j00.", brew.OK, 0},
		{";;;:j01.", brew.ErrLink, 4},
		{";;;:j99.", brew.ErrLink, 4},
		{";;;:rf02.", brew.ErrLink, 5},
		{";;;:rf03k0t.", brew.ErrType, 0},
		{";;;:rf04k0t.", brew.ErrLink, 5},
		// A jump counts the instructions of its own body, not those of another one.
		{"-.;ii.;A0:j02l1t.;:j02k0t.", brew.ErrType, 0},
		{"-.;ii.;A0:j03l1t.;:j03k0k0t.", brew.ErrLink, 10},
		{"-.;ii.;A0:l1t.;:j02k0t.", brew.ErrType, 1},
		{"-.;ii.;A0:l1t.;:j03k0t.", brew.ErrLink, 16},
		// The first one in the text, a jump or a call, in a place that can be reached or not.
		{"-.;ii.;;:j77cA0t.", brew.ErrLink, 9},
		{"-.;ii.;;:cA0j77t.", brew.ErrLink, 9},
		{";;;:k0tj07.", brew.ErrLink, 7},
		{"-.;ii.;;:k0tcA0.", brew.ErrLink, 12},
		{"-.;ii.ii.;A0:l0l1cA1t.;:j55.", brew.ErrLink, 17},
		// A class has its own bodies and its ancestors', wherever these stand, and no others.
		{"-.;ii.;A0:l0l1cA0t.;:k0t.", brew.OK, 0},
		{"-.A.B.C.;ii.;A0:l1t.;:nDk0cD0t.", brew.OK, 0},
		{"-.A.B.C.;ii.;B0:l1t.;:nDk0cB0t.", brew.OK, 0},
		{"-.A.B.C.;ii.;B0:l1t.;:nDk0cA0t.", brew.ErrLink, 26},
		{"-.A.A.;ii.;B0:l1t.;:nCk0cC0t.", brew.ErrLink, 24},
		{"-.;ii.ii.;A0:l0l1cA1t.A1:l1t.;:k0t.", brew.OK, 0},
		{"-.;ii.ii.;A0:l0l1cA1t.;:k0t.", brew.ErrLink, 17},
		{"-.-.;ii.;B0:l1t.;:zk0cA0t.", brew.ErrLink, 21},
	})
}

func TestP1FirstErrorNamed(t *testing.T) {
	checkAll(t, []verdict{
		{";;;:+j09x", brew.ErrForm, 9},
		{";;;:+j09.", brew.ErrLink, 5},
		{"-.;ii.;A0:zt.;:j09.", brew.ErrLink, 15},
		{"-.;ii.;A0:zt.;:zt.", brew.ErrType, 0},
	})
}

// TestP5Instructions has, for each instruction, what it takes, and what it lays.
func TestP5Instructions(t *testing.T) {
	typed := []string{
		";;;:k0t.", ";;;:rt.", ";;;:k1wk0t.", ";;;i:l0t.", ";;;i:k1s0k0t.",
		";;;:rr+t.", ";;;:rr-t.", ";;;:rr*t.", ";;;:rr/t.", ";;;:rr<t.", ";;;:rr=t.",
		";;;:zzet.", "-.-.;;;:nAnBet.", "-.;;;:nAzet.", "-.;;;A:l0l0et.",
		"-i.;;;:nAgA0t.", "-i.;;;:zgA0t.", "-i.A.;;;:nBgA0t.", "-A.;;;:nAgA0gA0dk0t.", "-A.;;;A:zgA0s0k0t.",
		"-i.;;;:nAk1pA0k0t.", "-i.;;;:zk1pA0k0t.", "-A.A.;;;:nBnBpA0k0t.", "-A.A.;;;:nBzpB0k0t.",
		"-.A.;ii.;A0:l1t.;:nBk1cA0t.", "-.A.;ii.;A0:l1t.;:zk1cA0t.",
		"-.A.;Ai.;A0:k0t.;:nAnBcA0t.", "-.A.;Ai.;A0:k0t.;:nBzcB0dk0t.",
		"-i.A.;iB.;A0:zt.;:nAk0cA0gB0t.",
		"-i.A.;;;:nAxBgB0t.", "-i.;;;:zxAgA0t.", "-i.-.;;;:nBxAgA0t.",
		";;;:k0dk0t.", ";;;:zdk0t.", ";;;:j01k0t.", ";;;:rf02k0t.",
		"-.A.;AA.;A0:l0t.;:k0t.", "-.A.;AA.;B0:l0t.;:k0t.", "-.;AA.;A0:zt.;:k0t.", "-.;ii.;A0:l1t.;:k0t.",
		// A local holds whatever was laid in it last, and a `-` may be moved and dropped, but not laid.
		"-.;;;i:nAs0l0dk0t.", "-.;;;A:k1s0l0t.", ";;;ii:zs0rs1l1t.",
		";;;i:rf04k7j05zs0k0t.", ";;;:rf04k7j05zdk0t.",
	}
	for _, image := range typed {
		if e, at := brew.Check(image); e != brew.OK || at != 0 {
			t.Errorf("Check(%q) = %d, %d", image, e, at)
		}
	}
	for _, image := range []string{
		";;;:t.", ";;;:zt.", "-.;;;:nAt.", ";;;:w.", ";;;:wk0t.", ";;;:zwk0t.",
		";;;i:s0k0t.", "-.;;;A:l0t.", ";;;:dk0t.",
		";;;:r+t.", ";;;:+t.", ";;;:zr+t.", ";;;:rz+t.", ";;;:zr-t.", ";;;:rz-t.", ";;;:zr*t.", ";;;:rz*t.",
		";;;:zr/t.", ";;;:rz/t.", ";;;:zr<t.", ";;;:rz<t.", ";;;:zr=t.", ";;;:rz=t.", ";;;:zz=t.",
		";;;:et.", ";;;:zet.", ";;;:rzet.", ";;;:zret.", ";;;:rret.", ";;;:zrf05rj06zet.",
		"-i.;;;:gA0t.", "-i.;;;:rgA0t.", "-i.-.;;;:nBgA0t.", "-i.A.;;;:nAgB0t.", "-A.;;;:nAgA0t.",
		"-i.;;;:rpA0k0t.", "-i.;;;:nArpA0t.", "-i.;;;:nAzpA0k0t.", "-i.;;;:rnApA0k0t.", "-A.;;;:nArpA0k0t.",
		"-A.-.;;;:nAnBpA0k0t.", "-i.A.;;;:nAk1pB0k0t.",
		"-.;;;:xAk0t.", "-.;;;:rxAdk0t.", "-.-.;;;:nAxBt.",
		// What follows goes on where there is no instruction.
		";;;:k0.", ";;;:r.", ";;;:j01r.", ";;;:rf00.", ";;;:rd.",
		// Ways meet with stacks of other heights.
		";;;:rf03rrt.", ";;;:rj00.", ";;;:rrdf00rj00.", ";;;:k5rf04k7k1t.",
		// Ways meet with types of which one cannot be used.
		";;;:rf04k7j05zt.", "-.;;;A:rf04k1s0l0dk0t.", ";;;i:zrf04zs0l0t.",
		"-i.-i.;;;:rf04nAj05nBgA0t.",
	} {
		if e, at := brew.Check(image); e != brew.ErrType || at != 0 {
			t.Errorf("Check(%q) = %d, %d", image, e, at)
		}
	}
}

func TestP6FirstBody(t *testing.T) {
	checkAll(t, []verdict{
		{"-.;ii.ii.;A0:l1t.A1:l1t.;:k0t.", brew.OK, 0},
		{"-.;ii.ii.;A0:l0t.A1:l1t.;:k0t.", brew.ErrType, 0},
		{"-.;ii.ii.;A0:l1t.A1:l0t.;:k0t.", brew.ErrType, 1},
		{"-.;ii.ii.;A0:l1t.A1:l1t.;:zt.", brew.ErrType, 2},
		{"-.;ii.ii.;A0:l1t.A1:l0t.;:zt.", brew.ErrType, 1},
		{full + ";:k0t.", brew.OK, 0},
		{full + ";:zt.", brew.ErrType, 6},
		// The method called tells the types, though its body be an ancestor's.
		{"-.A.;Ai.;A0:k0t.;:nBrcB0t.", brew.ErrType, 1},
		{"-.A.;Bi.;A0:k0t.;:nBnAcB0t.", brew.ErrType, 1},
		{"-.A.;Ai.;A0:k0t.;:nAnBcA0t.", brew.OK, 0},
		{"-.A.;Ai.;A0:k0t.B0:k1t.;:nAnBcB0t.", brew.ErrType, 2},
		{"-.Ai.;iA.;A0:l0t.;:nBk0cB0gB0t.", brew.ErrType, 1},
		{"-.Ai.;iA.;A0:l0t.;:nBk0cB0xBgB0t.", brew.OK, 0},
	})
}

func TestP7Types(t *testing.T) {
	for _, c := range []struct{ image, types string }{
		{";;;:k1k2+t.", "|,i|,ii|,i|,;"},
		{"-.;;;A:rf04k1s0k0t.", "|A,i|A,|A,i|A,|-,i|-,;"},
		{";;;:j00.", "|,;"},
		{";;;:k0tr.", "|,i|,?,;"},
		{";;;:j03rtk0j02.", "|,?,i|,|,i|,;"},
		{";;;:j02j01k0t.", "|,?,|,i|,;"},
		{"-.;ii.;A0iA:l1t.;A:k0t.", "|AiiA,i|AiiA,;|A,i|A,;"},
		// Null and a class meet at the class, from either side; null and null at null.
		{"-.;;;:rf04nAj05zdk0t.", "|,i|,|,A|,|,A|,|,i|,;"},
		{"-.;;;:rf04zj05nAdk0t.", "|,i|,|,z|,|,A|,|,i|,;"},
		{";;;:rf04zj05zdk0t.", "|,i|,|,z|,|,z|,|,i|,;"},
		// Classes meet at the nearest class that both come from, or at none.
		{"-.A.A.;;;:rf04nBj05nCdk0t.", "|,i|,|,B|,|,A|,|,i|,;"},
		{"-.A.B.;;;:rf04nBj05nCdk0t.", "|,i|,|,B|,|,B|,|,i|,;"},
		{"-.A.B.;;;:rf04nCj05nBdk0t.", "|,i|,|,C|,|,B|,|,i|,;"},
		{"-.A.B.B.;;;:rf04nCj05nDdk0t.", "|,i|,|,C|,|,B|,|,i|,;"},
		{"-.A.B.A.;;;:rf04nCj05nDdk0t.", "|,i|,|,C|,|,A|,|,i|,;"},
		{"-.-.;;;:rf04nAj05nBdk0t.", "|,i|,|,A|,|,-|,|,i|,;"},
		// A number and a reference meet at none.
		{"-.;;;:rf04k0j05nAdk0t.", "|,i|,|,i|,|,-|,|,i|,;"},
		{";;;:rf04zj05k0dk0t.", "|,i|,|,z|,|,-|,|,i|,;"},
		// A loop raises what its beginning has, and what lies low on the stack stays there.
		{"-.A.;;;A:nBs0rf07nAs0j02k0t.", "|A,B|A,|A,i|A,|A,A|A,|A,|A,i|A,;"},
		{"-.A.B.;;;A:nCs0rf07nBs0j02k0t.", "|A,C|A,|B,i|B,|B,B|B,|B,|B,i|B,;"},
		{"-.A.;;;:zk0nBddt.", ""},
		{"-.A.;;;:k0znBddt.", "|,i|,iz|,izB|,iz|,i|,;"},
		// A `-` stays till something else is laid in the local.
		{";;;ii:zs0rf07l1s0j02k0t.", "|ii,z|ii,|-i,i|-i,|-i,i|-i,|ii,|-i,i|-i,;"},
	} {
		s, e := brew.Types(c.image)
		if s != c.types || (e == brew.OK) != (c.types != "") {
			t.Errorf("Types(%q) = %q, %d, want %q", c.image, s, e, c.types)
		}
	}
}
