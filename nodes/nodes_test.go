package nodes_test

import (
	"fmt"
	"testing"

	"brew/nodes"
	"brew/text"
)

func TestRead(t *testing.T) {
	source := "-i.;iA.;A0i:l0.;A:,s0nAi+7ro1z*2gA0l0."
	k, place := nodes.Read(source)
	if place != text.NoPlace || len(k.Bodies) != 2 {
		t.Fatalf("%d bodies, fails at %d", len(k.Bodies), place)
	}
	main := k.Bodies[1].Items
	for number, want := range []string{
		", [1 3]", "s [2]", "n []", "i [4 7 10]", "+ [5 6]", "k [] 7", "r []", "o [8 9]", "k [] 1", "z []", "* [11 12]", "k [] 2", "g [13]", "l []",
	} {
		got := fmt.Sprintf("%c %v", main[number].Letter, main[number].Parts)
		if main[number].Letter == 'k' {
			got += fmt.Sprintf(" %d", main[number].Number)
		} else if source[main[number].Place] != main[number].Letter {
			t.Errorf("%c stands at %d, it says", main[number].Letter, main[number].Place)
		}
		if got != want {
			t.Errorf("node %d: %s, want %s", number, got, want)
		}
	}
	if main[2].Class != 'A' || main[12].Class != 'A' || len(main) != 14 {
		t.Errorf("the main body: %v", main)
	}
}

func TestReadFails(t *testing.T) {
	for source, want := range map[string]int{";;;:+0": 6, ";;;:+0.": 6, ";;;:k0.": 4, ";;;:00.": 5, ";;;:0.0": 6} {
		if _, place := nodes.Read(source); place != want {
			t.Errorf("%q fails at %d, not at %d", source, place, want)
		}
	}
}

func TestHasType(t *testing.T) {
	for source, want := range map[string]bool{
		";;;:0.": true, ";;;:z.": false, "-.A.A.;;;A:s0i1nBnC.": true, "-.-.;;;:ei1nAnBz.": false,
		"-.A.;;;B:s0nA.": false, ";;;:,+1z1.": false, ";;;:oz1.": false, ";;;:o1z.": true,
	} {
		k, place := nodes.Read(source)
		if place != text.NoPlace {
			t.Fatalf("%q fails at %d", source, place)
		}
		if got := nodes.HasType(k, k.Bodies[0]); got != want {
			t.Errorf("that the body of %q has a type is %v", source, got)
		}
	}
}
