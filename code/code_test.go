package code_test

import (
	"testing"

	"brew/code"
	"brew/text"
)

func TestRead(t *testing.T) {
	image := "-i.;iA.;A0i:l2dl0t.;A:nAk1pA0rf01l0k4cA0dk9t."
	k, place := code.Read(image)
	if place != text.NoPlace || len(k.Bodies) != 2 {
		t.Fatalf("%d bodies, fails at %d", len(k.Bodies), place)
	}
	letters := ""
	for _, body := range k.Bodies {
		for _, item := range body.Items {
			letters += string([]byte{item.Letter})
			if image[item.Place] != item.Letter {
				t.Errorf("%c stands at %d, it says", item.Letter, item.Place)
			}
		}
		letters += "."
	}
	if letters != "ldlt.nkprflkcdkt." {
		t.Errorf("the letters: %s", letters)
	}
	main := k.Bodies[1].Items
	if main[2].Class != 'A' || main[2].Number != 0 || main[4].Number != 1 || main[9].Number != 9 {
		t.Errorf("the main body: %v", main)
	}
}

func TestReadFails(t *testing.T) {
	if _, place := code.Read(";;;:k0q"); place != 6 {
		t.Errorf("fails at %d", place)
	}
	if _, place := code.Read(";;;:k0"); place != 6 {
		t.Errorf("fails at %d", place)
	}
}

func TestBrokenLink(t *testing.T) {
	for _, c := range []struct {
		image string
		place int
	}{
		{";;;:j00.", text.NoPlace},
		{";;;:rj02.", 5},
		{"-.;ii.;A0:f03rt.;:t.", 10},
		{"-.;ii.;;:zrcA0t.", 11},
	} {
		k, place := code.Read(c.image)
		if place != text.NoPlace {
			t.Fatalf("%q fails at %d", c.image, place)
		}
		if got := text.BrokenLink(k); got != c.place {
			t.Errorf("%q: the link at %d", c.image, got)
		}
	}
}

// TestWrite writes images that have been read: they must be the same again.
func TestWrite(t *testing.T) {
	for _, image := range []string{
		";;;:k0t.",
		"-iA.Ai.-.Cii.;iA.BC.;A0iB:nBxAt.B1:l1xCt.C1ABC:zt.;BiA:nBs0l0k1pB0l0nApB1l0zcB1dl0gB2rf15zzetk1j99+-*/<=w.",
	} {
		read, place := code.Read(image)
		if place != text.NoPlace {
			t.Fatalf("%q fails at %d", image, place)
		}
		written := code.WriteBeginning(read)
		for _, body := range read.Bodies {
			written += code.WriteBody(body, body.Items)
		}
		if written != image {
			t.Errorf("%q is written %q", image, written)
		}
	}
}
