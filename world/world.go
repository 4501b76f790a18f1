// Package world: what a run works on, be it of an image or of a source: values, objects, the input and the output.
package world

import (
	"strconv"

	"brew/text"
)

// Fault tells why a run ended early.
type Fault int

const (
	None   Fault = iota
	Fuel         // the steps are spent
	Null         // a field or a method of null
	Div          // a division by 0
	Cast         // an object of another class
	Memory       // there is no room for an object
	Deep         // too many bodies have begun and not ended
)

// Value is a number or a reference: the types of a checked text tell which, so it bears no mark of its kind.
// The zero Value is both 0 and null.
type Value struct {
	Number int32
	Object int // 0 is null; the first object is 1
}

type object struct {
	class  byte
	fields []Value
	seen   int // the count of reached cells that has come to it last
}

// World is what there is in one run.
type World struct {
	text    *text.Text
	input   string
	read    int // how many bytes of the input have been read
	out     []byte
	objects []*object
	counts  int // how often the reached cells have been counted
}

// New answers a world without objects.
func New(t *text.Text, input string) *World {
	return &World{text: t, input: input}
}

// Out answers what has been put out.
func (w *World) Out() string {
	return string(w.out)
}

// Class answers the own class of the object that a reference refers to, or text.NoClass of null.
func (w *World) Class(reference Value) byte {
	referred := w.objectOf(reference)
	if referred == nil {
		return text.NoClass
	}
	return referred.class
}

// Do does what an item does with what it takes, and answers what it lays, or the zero Value where it lays nothing.
// Items that deal with locals, bodies or the way on are not for it.
func (w *World) Do(item text.Item, first Value, second Value) (Value, Fault) {
	switch item.Letter {
	case 'k':
		return Value{Number: int32(item.Number)}, None
	case 'r':
		return w.nextByte(), None
	case 'w':
		w.putOut(first.Number)
	case '+', '-', '*', '/', '<', '=':
		return calculate(item.Letter, first.Number, second.Number)
	case 'e':
		return truth(first.Object == second.Object), None
	case 'n':
		return w.newObject(item.Class), None
	case 'g':
		return w.field(first, item.Number)
	case 'p':
		return Value{}, w.setField(first, item.Number, second)
	case 'x':
		return w.cast(first, item.Class)
	}
	return Value{}, None
}

// objectOf answers nil of null.
func (w *World) objectOf(reference Value) *object {
	if reference.Object <= 0 || reference.Object > len(w.objects) {
		return nil
	}
	return w.objects[reference.Object-1]
}

func (w *World) nextByte() Value {
	if w.read < 0 || w.read >= len(w.input) {
		return Value{Number: -1}
	}
	next := w.input[w.read]
	w.read++
	return Value{Number: int32(next)}
}

func (w *World) putOut(number int32) {
	w.out = strconv.AppendInt(w.out, int64(number), 10)
	w.out = append(w.out, ' ')
}

func (w *World) newObject(class byte) Value {
	fields := make([]Value, w.text.FieldCount(class))
	w.objects = append(w.objects, &object{class: class, fields: fields})
	return Value{Object: len(w.objects)}
}

func (w *World) field(reference Value, number int) (Value, Fault) {
	referred := w.objectOf(reference)
	if referred == nil {
		return Value{}, Null
	}
	if number < 0 || number >= len(referred.fields) {
		return Value{}, None
	}
	return referred.fields[number], None
}

func (w *World) setField(reference Value, number int, value Value) Fault {
	referred := w.objectOf(reference)
	if referred == nil {
		return Null
	}
	if number >= 0 && number < len(referred.fields) {
		referred.fields[number] = value
	}
	return None
}

func (w *World) cast(reference Value, class byte) (Value, Fault) {
	referred := w.objectOf(reference)
	if referred != nil && !w.text.ComesFrom(referred.class, class) {
		return Value{}, Cast
	}
	return reference, None
}

func calculate(letter byte, first int32, second int32) (Value, Fault) {
	switch letter {
	case '+':
		return Value{Number: first + second}, None
	case '-':
		return Value{Number: first - second}, None
	case '*':
		return Value{Number: first * second}, None
	case '<':
		return truth(first < second), None
	case '=':
		return truth(first == second), None
	}
	if second == 0 {
		return Value{}, Div
	}
	return Value{Number: first / second}, None
}

func truth(holds bool) Value {
	if holds {
		return Value{Number: 1}
	}
	return Value{}
}
