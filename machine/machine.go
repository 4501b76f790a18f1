// Package machine: the running of images that have passed the checker.
package machine

import (
	"brew/table"
	"brew/text"
	"brew/world"
)

// machine is one run.
type machine struct {
	text    *text.Text
	tables  []table.Table
	world   *world.World
	cells   int
	current *frame // nil behind the end of the main body
	answer  int32  // the main body's
}

// Run runs the main body of an image whose tables hold. It answers what was put out, the main body's answer, and None
// or the fault that ended the run.
func Run(t *text.Text, tables []table.Table, input string, cells int, fuel int) (string, int, world.Fault) {
	m := &machine{text: t, tables: tables, world: world.New(t, input), cells: cells}
	m.begin(len(t.Bodies) - 1)
	fault := world.None
	for steps := 0; steps < fuel && m.current != nil && fault == world.None; steps++ {
		fault = m.step()
	}
	if fault == world.None && m.current != nil {
		fault = world.Fuel
	}
	if fault != world.None {
		return m.world.Out(), 0, fault
	}
	return m.world.Out(), int(m.answer), world.None
}

// step does the instruction at hand of the body that is at work.
func (m *machine) step() world.Fault {
	f := m.current
	item := f.item()
	asked := m.text.Takes(item, f.body.Answer)
	first, second := f.take(len(asked))
	switch item.Letter {
	case 'c':
		return m.call(item.Number, first, second)
	case 't':
		m.end(first)
	case 'j':
		f.at = item.Number
	case 'f':
		f.goOn(item.Number, first)
	default:
		return m.pass(f, item, first, second)
	}
	return world.None
}

// pass does an instruction that goes on behind itself.
func (m *machine) pass(f *frame, item text.Item, first world.Value, second world.Value) world.Fault {
	if item.Letter == 'n' && !m.hasRoom(item.Class) {
		return world.Memory
	}
	laid, fault := world.Value{}, world.None
	switch item.Letter {
	case 'l':
		laid = f.locals.Get(item.Number)
	case 's':
		f.locals.Set(item.Number, first)
	default:
		laid, fault = m.world.Do(item, first, second)
	}
	if m.text.Lays(item, f.body.Locals) != text.Nothing {
		f.stack = append(f.stack, laid)
	}
	f.at++
	return fault
}

// call begins the body that the object's own class has for a method. The caller's instruction at hand stays the call.
func (m *machine) call(method int, object world.Value, argument world.Value) world.Fault {
	body, fault := m.world.Callee(object, method, m.current.depth)
	if fault != world.None {
		return fault
	}
	m.begin(body)
	m.current.locals.Set(0, object)
	m.current.locals.Set(1, argument)
	return world.None
}

// begin begins a body with locals that hold 0 and null.
func (m *machine) begin(number int) {
	begun := &frame{caller: m.current, depth: 1}
	if m.current != nil {
		begun.depth = m.current.depth + 1
	}
	if number >= 0 && number < len(m.text.Bodies) && number < len(m.tables) {
		begun.body = m.text.Bodies[number]
		begun.states = m.tables[number].States
	}
	begun.locals = world.NewLocals(begun.body)
	m.current = begun
}

// end ends the body that is at work, and hands its answer to the one that waits for it.
func (m *machine) end(answer world.Value) {
	caller := m.current.caller
	m.current = caller
	if caller == nil {
		m.answer = answer.Number
		return
	}
	caller.stack = append(caller.stack, answer)
	caller.at++
}

// hasRoom tells whether a new object of a class finds room beside all objects that can still be reached.
func (m *machine) hasRoom(class byte) bool {
	slots := []world.Value{}
	for f := m.current; f != nil; f = f.caller {
		usable := f.slots()
		slots = append(slots, usable...)
	}
	reached := m.world.Reached(slots)
	return reached+world.CellsOf(m.text, class) <= m.cells
}
