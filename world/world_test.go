package world_test

import (
	"testing"

	"brew/code"
	"brew/text"
	"brew/world"
)

func newWorld(t *testing.T, classes string, input string) *world.World {
	t.Helper()
	read, place := code.Read(classes + ";;;:k0t.")
	if place != text.NoPlace {
		t.Fatalf("%q fails at %d", classes, place)
	}
	return world.New(read, input)
}

func item(letter byte, class byte, number int) text.Item {
	return text.Item{Letter: letter, Class: class, Number: number}
}

func do(t *testing.T, w *world.World, it text.Item, first world.Value, second world.Value) world.Value {
	t.Helper()
	value, fault := w.Do(it, first, second)
	if fault != world.None {
		t.Fatalf("%c: fault %d", it.Letter, fault)
	}
	return value
}

func TestInputAndOutput(t *testing.T) {
	w := newWorld(t, "", "\x00\xff")
	none := world.Value{}
	for i := 0; i < 4; i++ {
		got := do(t, w, item('r', '-', 0), none, none)
		do(t, w, item('w', '-', 0), got, none)
	}
	if w.Out() != "0 255 -1 -1 " {
		t.Errorf("%q", w.Out())
	}
}

func TestFaults(t *testing.T) {
	w := newWorld(t, "-i.A.-.", "")
	null := world.Value{}
	one := world.Value{Number: 1}
	object := do(t, w, item('n', 'A', 0), null, null)
	for _, c := range []struct {
		it            text.Item
		first, second world.Value
		fault         world.Fault
	}{
		{item('g', 'A', 0), null, null, world.Null},
		{item('g', 'A', 0), object, null, world.None},
		{item('p', 'A', 0), null, one, world.Null},
		{item('p', 'A', 0), object, one, world.None},
		{item('/', '-', 0), one, null, world.Div},
		{item('/', '-', 0), null, one, world.None},
		{item('x', 'A', 0), object, null, world.None},
		{item('x', 'B', 0), object, null, world.Cast},
		{item('x', 'C', 0), object, null, world.Cast},
		{item('x', 'B', 0), null, null, world.None},
	} {
		if _, fault := w.Do(c.it, c.first, c.second); fault != c.fault {
			t.Errorf("%c%c: fault %d, want %d", c.it.Letter, c.it.Class, fault, c.fault)
		}
	}
	if w.Class(object) != 'A' || w.Class(null) != text.NoClass {
		t.Error("the class of an object, or of null")
	}
}

func TestReached(t *testing.T) {
	w := newWorld(t, "-iA.AA.", "")
	none := world.Value{}
	a := do(t, w, item('n', 'A', 0), none, none)
	b := do(t, w, item('n', 'B', 0), none, none)
	c := do(t, w, item('n', 'A', 0), none, none)
	do(t, w, item('p', 'A', 1), a, b)
	do(t, w, item('p', 'B', 2), b, a)
	do(t, w, item('p', 'A', 0), c, world.Value{Number: 1})
	for _, k := range []struct {
		from  []world.Value
		cells int
	}{
		{[]world.Value{}, 0},
		{[]world.Value{none}, 0},
		{[]world.Value{{Number: 2}}, 0},
		{[]world.Value{a}, 7},
		{[]world.Value{b}, 7},
		{[]world.Value{c}, 3},
		{[]world.Value{a, a, b}, 7},
		{[]world.Value{c, none, a, c}, 10},
	} {
		if cells := w.Reached(k.from); cells != k.cells {
			t.Errorf("%v lead to %d cells, not %d", k.from, cells, k.cells)
		}
	}
}

func TestCallee(t *testing.T) {
	read, _ := code.Read("-.A.;ii.;A0:l1t.B0:l1t.;:k0t.")
	w := world.New(read, "")
	null := world.Value{}
	object := do(t, w, item('n', 'B', 0), null, null)
	for _, c := range []struct {
		object world.Value
		begun  int
		fault  world.Fault
	}{
		{object, 1, world.None}, {object, 11, world.None}, {object, 12, world.Deep}, {null, 1, world.Null}, {null, 12, world.Null},
	} {
		body, fault := w.Callee(c.object, 0, c.begun)
		if fault != c.fault || fault == world.None && body != 1 {
			t.Errorf("a call of %v while %d bodies have begun: body %d, fault %d", c.object, c.begun, body, fault)
		}
	}
}

func TestLocals(t *testing.T) {
	locals := world.NewLocals(text.Body{Locals: []byte("iA")})
	one := world.Value{Number: 1}
	locals.Set(1, one)
	locals.Set(2, one)
	locals.Set(-1, one)
	for number, want := range []world.Value{{}, one, {}} {
		if got := locals.Get(number); got != want {
			t.Errorf("local %d holds %v", number, got)
		}
	}
}
