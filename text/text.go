// Package text: what images and sources have in common: their classes, methods and bodies, and the types of these.
package text

// The limits of a text's parts.
const (
	maxClasses   = 4
	maxOwnFields = 2
	maxMethods   = 3
	maxBodies    = 6
	maxLocals    = 3 // of the main body, and of another body beside the object and the argument
)

// NoClass stands where a class has no parent, and where a body, the main one, has no class.
const NoClass byte = '-'

// Class has all its fields, so that a field's number is its index.
type Class struct {
	Parent byte
	Fields []byte // the parent's types, then its own
}

// Method tells the types that all bodies of one method share.
type Method struct {
	Argument byte
	Answer   byte
}

// Item is one thing to be done: an instruction of an image, or a node of a source. A digit that is a node has the
// letter of the instruction that lays it, `k`.
type Item struct {
	Place  int // of its letter in the text
	Letter byte
	Class  byte  // if its letter asks for one
	Number int   // if its letter asks for one
	Parts  []int // of a node: the numbers of the items that are its parts, all greater than its own
}

// Body tells what is to be done for a method of a class, or, of the main one, for the whole text.
type Body struct {
	Class  byte
	Method int
	Answer byte
	Locals []byte // the types of all of them
	Items  []Item
}

// ItemAt answers an item that does nothing for a number that is not there.
func (b Body) ItemAt(number int) Item {
	if number < 0 || number >= len(b.Items) {
		return Item{Class: NoClass}
	}
	return b.Items[number]
}

// Text is an image or a source that has been read; its main body is the last one.
type Text struct {
	Classes []Class
	Methods []Method
	Bodies  []Body
}

// classIndex answers -1 for a letter that no class of the text has.
func (t *Text) classIndex(letter byte) int {
	if letter < 'A' {
		return -1
	}
	index := int(letter - 'A')
	if index >= len(t.Classes) {
		return -1
	}
	return index
}

// IsClass tells whether a type is a class of the text.
func (t *Text) IsClass(letter byte) bool {
	return t.classIndex(letter) >= 0
}

// Parent answers NoClass for a class that has none, and for what is no class.
func (t *Text) Parent(letter byte) byte {
	index := t.classIndex(letter)
	if index < 0 {
		return NoClass
	}
	return t.Classes[index].Parent
}

// FieldCount counts the fields of a class, its parent's too.
func (t *Text) FieldCount(letter byte) int {
	index := t.classIndex(letter)
	if index < 0 {
		return 0
	}
	return len(t.Classes[index].Fields)
}

// FieldType answers Unusable for a field that is not there.
func (t *Text) FieldType(letter byte, field int) byte {
	index := t.classIndex(letter)
	if index < 0 {
		return Unusable
	}
	return TypeAt(t.Classes[index].Fields, field)
}

// MethodAt answers a method that nothing suits for a number that is not there.
func (t *Text) MethodAt(number int) Method {
	if number < 0 || number >= len(t.Methods) {
		return Method{Argument: Unusable, Answer: Unusable}
	}
	return t.Methods[number]
}

// OwnBody answers the number of the body that stands under a class's own letter for a method, or -1.
func (t *Text) OwnBody(class byte, method int) int {
	for i := 0; i < len(t.Bodies); i++ {
		if t.Bodies[i].Class == class && t.Bodies[i].Method == method {
			return i
		}
	}
	return -1
}

// BodyOf answers the number of the body that a class has for a method, or -1.
func (t *Text) BodyOf(class byte, method int) int {
	letter := class
	// No class comes from more classes than there are.
	for i := 0; i < len(t.Classes) && letter != NoClass; i++ {
		body := t.OwnBody(letter, method)
		if body >= 0 {
			return body
		}
		letter = t.Parent(letter)
	}
	return -1
}

// TypeAt answers Unusable for a place that a list of types does not have.
func TypeAt(types []byte, index int) byte {
	if index < 0 || index >= len(types) {
		return Unusable
	}
	return types[index]
}
