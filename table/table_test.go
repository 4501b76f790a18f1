package table_test

import (
	"testing"

	"brew/code"
	"brew/table"
	"brew/text"
)

func TestLeast(t *testing.T) {
	for _, c := range []struct{ image, types string }{
		{";;;:k1k2+t.", "|,i|,ii|,i|,;"},
		{";;;:k1+t.", ""},
		{";;;:r.", ""},
		{"-.A.;;;A:rf04nBs0k0tz.", "|A,i|A,|A,B|A,|A,i|A,?,;"},
		{"-.A.A.;;;:rf04nBj05nCdk0t.", "|,i|,|,B|,|,A|,|,i|,;"},
	} {
		k, place := code.Read(c.image)
		if place != text.NoPlace {
			t.Fatalf("%q fails at %d", c.image, place)
		}
		least, holds := table.Least(k, k.Bodies[0])
		if holds != (c.types != "") {
			t.Errorf("that a table of %q holds is %v", c.image, holds)
		}
		if got := table.Write(least); holds && got != c.types {
			t.Errorf("the table of %q: %q", c.image, got)
		}
	}
}

// TestLeastLeavesTheBody tells that a table is made beside the body, not in it.
func TestLeastLeavesTheBody(t *testing.T) {
	k, _ := code.Read("-.;;;A:k1s0rf00k0t.")
	least, holds := table.Least(k, k.Bodies[0])
	if !holds || string(k.Bodies[0].Locals) != "A" || string(least.States[0].Locals) != "-" {
		t.Errorf("%v, %q, %q", holds, k.Bodies[0].Locals, table.Write(least))
	}
}
