package evaluator_test

import (
	"testing"

	"brew/evaluator"
	"brew/nodes"
	"brew/text"
	"brew/world"
)

func TestEval(t *testing.T) {
	for _, c := range []struct {
		source string
		fuel   int
		out    string
		value  int
		fault  world.Fault
	}{
		{"-.;ii.;A0:,wl1+l11.;:cA0nA5.", 9, "5 ", 6, world.None},
		{"-.;ii.;A0:,wl1+l11.;:cA0nA5.", 8, "5 ", 0, world.Fuel},
		{"-.;ii.;A0:,wl1+l11.;:cA0z5.", 8, "", 0, world.Null},
		{"-.;ii.;A0:cA0l0l1.;:cA0nA5.", 99, "", 0, world.Deep},
		{";;;:/10.", 99, "", 0, world.Div},
		{"-.A.;;;:exBnAz.", 99, "", 0, world.Cast},
		{";;;i:,o<l03,wl0s0+l01l0.", 99, "0 1 2 ", 3, world.None},
	} {
		read, place := nodes.Read(c.source)
		if place != text.NoPlace {
			t.Fatalf("%q fails at %d", c.source, place)
		}
		if out, value, fault := evaluator.Eval(read, "", c.fuel); out != c.out || value != c.value || fault != c.fault {
			t.Errorf("%q: %q, %d, %d", c.source, out, value, fault)
		}
	}
}
