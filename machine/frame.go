package machine

import (
	"brew/table"
	"brew/text"
	"brew/world"
)

// frame is a body that has begun and not ended.
type frame struct {
	caller *frame // nil of the main body
	depth  int    // how many bodies have begun and not ended, up to this one
	body   text.Body
	states []table.State
	at     int // the instruction at hand; of a body that waits, its call
	locals *world.Locals
	stack  []world.Value
}

// item answers the instruction at hand. Where there is none, which the checker rules out, the body ends.
func (f *frame) item() text.Item {
	if f.at < 0 || f.at >= len(f.body.Items) {
		return text.Item{Letter: 't'}
	}
	return f.body.Items[f.at]
}

// take takes up to two values from the stack, and answers them in the order in which they were laid there.
func (f *frame) take(count int) (world.Value, world.Value) {
	first, second := world.Value{}, world.Value{}
	if count > 1 {
		second = f.takeTop()
	}
	if count > 0 {
		first = f.takeTop()
	}
	return first, second
}

func (f *frame) takeTop() world.Value {
	last := len(f.stack) - 1
	if last < 0 {
		return world.Value{}
	}
	top := f.stack[last]
	f.stack = f.stack[:last]
	return top
}

// goOn goes to an instruction if the condition is 0, else behind the one at hand.
func (f *frame) goOn(target int, condition world.Value) {
	if condition.Number == 0 {
		f.at = target
	} else {
		f.at++
	}
}

// slots answers the values that the table does not call unusable at the instruction at hand. Of a body that waits the
// stack is shorter than the state of its call says, by what the call has taken.
func (f *frame) slots() []world.Value {
	if f.at < 0 || f.at >= len(f.states) {
		return []world.Value{}
	}
	state := f.states[f.at]
	onStack := usable(f.stack, state.Stack)
	inLocals := usable(f.locals.Values, state.Locals)
	return append(onStack, inLocals...)
}

func usable(values []world.Value, types []byte) []world.Value {
	kept := []world.Value{}
	for i := 0; i < len(values) && i < len(types); i++ {
		if types[i] != text.Unusable {
			kept = append(kept, values[i])
		}
	}
	return kept
}
