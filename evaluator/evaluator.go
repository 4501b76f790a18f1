// Package evaluator: the working out of sources that have types.
package evaluator

import (
	"brew/text"
	"brew/world"
)

// evaluator is the working out of one source.
type evaluator struct {
	text  *text.Text
	world *world.World
	fuel  int // the steps that may still be made
}

// frame is a body that has begun and not ended.
type frame struct {
	depth  int // how many bodies have begun and not ended, up to this one
	body   text.Body
	locals *world.Locals
}

// Eval works out the main body of a source all of whose bodies have types. It answers what was put out, what the main
// body's node comes to, and None or the fault that ended the work.
func Eval(t *text.Text, input string, fuel int) (string, int, world.Fault) {
	e := &evaluator{text: t, world: world.New(t, input), fuel: fuel}
	main := e.newFrame(len(t.Bodies)-1, 1)
	value, fault := e.workOut(main, 0)
	if fault != world.None {
		return e.world.Out(), 0, fault
	}
	return e.world.Out(), int(value.Number), world.None
}

// newFrame answers a body that has locals which hold 0 and null.
func (e *evaluator) newFrame(number int, depth int) *frame {
	body := text.Body{}
	if number >= 0 && number < len(e.text.Bodies) {
		body = e.text.Bodies[number]
	}
	return &frame{depth: depth, body: body, locals: world.NewLocals(body)}
}

// workOut works out one node. It ends, since a part has a greater number than its node, calls go no deeper than
// the world lets them, and every round of a loop takes steps.
func (e *evaluator) workOut(f *frame, number int) (world.Value, world.Fault) {
	if e.fuel <= 0 {
		return world.Value{}, world.Fuel
	}
	e.fuel--
	node := f.body.ItemAt(number)
	switch node.Letter {
	case 'i':
		return e.choose(f, node)
	case 'o':
		return e.repeat(f, node)
	}
	first, fault := e.workOutPart(f, node, 0)
	if fault != world.None {
		return world.Value{}, fault
	}
	second, fault := e.workOutPart(f, node, 1)
	if fault != world.None {
		return world.Value{}, fault
	}
	return e.do(f, node, first, second)
}

// workOutPart does nothing where a node has no such part.
func (e *evaluator) workOutPart(f *frame, node text.Item, part int) (world.Value, world.Fault) {
	if part < 0 || part >= len(node.Parts) {
		return world.Value{}, world.None
	}
	return e.workOut(f, node.Parts[part])
}

// do does what a node does with what its parts come to.
func (e *evaluator) do(f *frame, node text.Item, first world.Value, second world.Value) (world.Value, world.Fault) {
	switch node.Letter {
	case ',':
		return second, world.None
	case 'l':
		return f.locals.Get(node.Number), world.None
	case 's':
		f.locals.Set(node.Number, first)
		return world.Value{}, world.None
	case 'c':
		return e.call(f, node, first, second)
	}
	return e.world.Do(node, first, second)
}

func (e *evaluator) call(f *frame, node text.Item, object world.Value, argument world.Value) (world.Value, world.Fault) {
	body, fault := e.world.Callee(object, node.Number, f.depth)
	if fault != world.None {
		return world.Value{}, fault
	}
	called := e.newFrame(body, f.depth+1)
	called.locals.Set(0, object)
	called.locals.Set(1, argument)
	return e.workOut(called, 0)
}

func (e *evaluator) choose(f *frame, node text.Item) (world.Value, world.Fault) {
	condition, fault := e.workOutPart(f, node, 0)
	if fault != world.None {
		return world.Value{}, fault
	}
	if condition.Number != 0 {
		return e.workOutPart(f, node, 1)
	}
	return e.workOutPart(f, node, 2)
}

func (e *evaluator) repeat(f *frame, node text.Item) (world.Value, world.Fault) {
	value, fault := e.workOutPart(f, node, 0)
	for fault == world.None && value.Number != 0 {
		value, fault = e.workOutPart(f, node, 1)
		if fault == world.None {
			value, fault = e.workOutPart(f, node, 0)
		}
	}
	return world.Value{}, fault
}
