package machine_test

import (
	"testing"

	"brew/code"
	"brew/machine"
	"brew/table"
	"brew/text"
	"brew/world"
)

func run(t *testing.T, image string, cells int, fuel int) (string, int, world.Fault) {
	t.Helper()
	read, place := code.Read(image)
	if place != text.NoPlace {
		t.Fatalf("%q fails at %d", image, place)
	}
	tables := []table.Table{}
	for _, body := range read.Bodies {
		least, holds := table.Least(read, body)
		if !holds {
			t.Fatalf("%q has no types", image)
		}
		tables = append(tables, least)
	}
	return machine.Run(read, tables, "", cells, fuel)
}

func TestRun(t *testing.T) {
	for _, c := range []struct {
		image  string
		cells  int
		fuel   int
		out    string
		answer int
		fault  world.Fault
	}{
		{"-.;ii.;A0:l1wl1k1+t.;:nAk5cA0t.", 1, 10, "5 ", 6, world.None},
		{"-.;ii.;A0:l1wl1k1+t.;:nAk5cA0t.", 1, 9, "5 ", 0, world.Fuel},
		{"-.;ii.;A0:l1wl1k1+t.;:nAk5cA0t.", 0, 8, "", 0, world.Memory},
		{"-.;ii.;A0:l1wl1k1+t.;:zk5cA0t.", 0, 8, "", 0, world.Null},
		{"-.;ii.;A0:l0l1cA0t.;:nAk5cA0t.", 1, 99, "", 0, world.Deep},
		{";;;:k1k0/t.", 1, 99, "", 0, world.Div},
		{"-.A.;;;:nAxBdk0t.", 1, 99, "", 0, world.Cast},
	} {
		if out, answer, fault := run(t, c.image, c.cells, c.fuel); out != c.out || answer != c.answer || fault != c.fault {
			t.Errorf("%q: %q, %d, %d", c.image, out, answer, fault)
		}
	}
}
