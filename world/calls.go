package world

import "brew/text"

const maxFrames = 12

// Callee answers the number of the body that a call of a method runs while some bodies have begun and not ended.
func (w *World) Callee(object Value, method int, begun int) (int, Fault) {
	class := w.Class(object)
	if class == text.NoClass {
		return -1, Null
	}
	if begun >= maxFrames {
		return -1, Deep
	}
	return w.text.BodyOf(class, method), None
}

// Locals are what the locals of a body hold.
type Locals struct {
	Values []Value
}

// NewLocals answers locals that hold 0 and null.
func NewLocals(body text.Body) *Locals {
	return &Locals{Values: make([]Value, len(body.Locals))}
}

// Get answers what a local holds.
func (l *Locals) Get(number int) Value {
	if number < 0 || number >= len(l.Values) {
		return Value{}
	}
	return l.Values[number]
}

// Set lays a value in a local.
func (l *Locals) Set(number int, value Value) {
	if number >= 0 && number < len(l.Values) {
		l.Values[number] = value
	}
}
