package compiler_test

import (
	"testing"

	"brew/compiler"
	"brew/nodes"
	"brew/text"
)

func TestCompile(t *testing.T) {
	for _, c := range []struct{ source, image string }{
		{";;;:+34.", ";;;:k3k4+t."},
		{";;;i:,wrs0l0.", ";;;i:rwk0dl0s0k0t."},
		{";;;:i012.", ";;;:k0f04k1j05k2t."},
		{";;;:o01.", ";;;:k0f05k1dj00k0t."},
		{";;;:+8o01.", ";;;:k8k0f06k1dj01k0+t."},
		{"-iA.Ai.;iA.AB.;A0:l0.B1iA:xBl3.;AB:pB2cB1l1cA0nAr9.", "-iA.Ai.;iA.AB.;A0:l0t.B1iA:l3xBt.;AB:l1nArcA0cB1k9pB2k0t."},
		{"-.;;;:enAz.", "-.;;;:nAzet."},
	} {
		read, place := nodes.Read(c.source)
		if place != text.NoPlace {
			t.Fatalf("%q fails at %d", c.source, place)
		}
		if image := compiler.Compile(read); image != c.image {
			t.Errorf("the image of %q is %q", c.source, image)
		}
	}
}
