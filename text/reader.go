package text

// NoPlace stands where nothing is wrong.
const NoPlace = -1

// Reader reads the parts that images and sources share. Once it has failed it reads nothing more, so that
// Place stays at the first byte that cannot stand there, or at the text's end.
type Reader struct {
	Text   Text
	Body   Body // the one whose head has been read last
	Place  int  // of the byte that is read next
	Failed bool
	inMain bool // Body is the main one
	whole  string
}

// NewReader answers a reader at the beginning of a text.
func NewReader(whole string) *Reader {
	return &Reader{whole: whole}
}

// next answers 0 behind the end: no text has that byte, so what reads on there refuses it.
func (r *Reader) next() byte {
	if r.Place < 0 || r.Place >= len(r.whole) {
		return 0
	}
	return r.whole[r.Place]
}

// Refuse fails the reader at a place.
func (r *Reader) Refuse(place int) {
	if !r.Failed {
		r.Failed = true
		r.Place = place
	}
}

// Before tells whether something else is to be read ahead of the byte that ends a list.
func (r *Reader) Before(end byte) bool {
	return !r.Failed && r.next() != end
}

// TakeByte reads a byte of any value, or fails at the end.
func (r *Reader) TakeByte() byte {
	if r.Place >= len(r.whole) {
		r.Failed = true
	}
	if r.Failed {
		return 0
	}
	taken := r.next()
	r.Place++
	return taken
}

// Take reads one certain byte.
func (r *Reader) Take(asked byte) {
	place := r.Place
	taken := r.TakeByte()
	if taken != asked {
		r.Refuse(place)
	}
}

// TakeDigit reads a digit that stands for a number below count.
func (r *Reader) TakeDigit(count int) int {
	place := r.Place
	taken := r.TakeByte()
	if taken < '0' || taken > '9' || int(taken-'0') >= count {
		r.Refuse(place)
		return 0
	}
	return int(taken - '0')
}

// TakeClass reads the letter of a class of the text.
func (r *Reader) TakeClass() byte {
	return r.takeLetterBelow(len(r.Text.Classes))
}

// takeLetterBelow reads one of the first letters of the alphabet, as many as count says.
func (r *Reader) takeLetterBelow(count int) byte {
	place := r.Place
	taken := r.TakeByte()
	if taken < 'A' || int(taken-'A') >= count {
		r.Refuse(place)
		return NoClass
	}
	return taken
}

// takeType reads the type of a number, or one of the first classes, as many as count says.
func (r *Reader) takeType(count int) byte {
	if r.next() == Number {
		return r.TakeByte()
	}
	return r.takeLetterBelow(count)
}

// takeTypes reads up to most types that stand ahead of the byte end, and that byte.
func (r *Reader) takeTypes(most int, classes int, end byte) []byte {
	types := []byte{}
	for len(types) < most && r.Before(end) {
		taken := r.takeType(classes)
		types = append(types, taken)
	}
	r.Take(end)
	return types
}

// ReadClasses reads the first part of a text.
func (r *Reader) ReadClasses() {
	for len(r.Text.Classes) < maxClasses && r.Before(';') {
		class := r.takeClassLine()
		r.Text.Classes = append(r.Text.Classes, class)
	}
	r.Take(';')
}

func (r *Reader) takeClassLine() Class {
	count := len(r.Text.Classes)
	parent := r.takeParent()
	own := r.takeTypes(maxOwnFields, count+1, '.')
	fields := []byte{}
	inherited := r.Text.FieldCount(parent)
	for i := 0; i < inherited; i++ {
		field := r.Text.FieldType(parent, i)
		fields = append(fields, field)
	}
	fields = append(fields, own...)
	return Class{Parent: parent, Fields: fields}
}

func (r *Reader) takeParent() byte {
	if r.next() == NoClass {
		return r.TakeByte()
	}
	return r.TakeClass()
}

// ReadMethods reads the second part of a text.
func (r *Reader) ReadMethods() {
	for len(r.Text.Methods) < maxMethods && r.Before(';') {
		classes := len(r.Text.Classes)
		argument := r.takeType(classes)
		answer := r.takeType(classes)
		r.Take('.')
		r.Text.Methods = append(r.Text.Methods, Method{Argument: argument, Answer: answer})
	}
	r.Take(';')
}

// NextBody reads the next body up to its colon, and tells whether there was one.
func (r *Reader) NextBody() bool {
	if r.inMain || r.Failed {
		return false
	}
	if len(r.Text.Bodies) < maxBodies && r.Before(';') {
		r.Body = r.takeHead()
		return true
	}
	r.inMain = true
	r.Take(';')
	r.Body = r.takeMainHead()
	return true
}

func (r *Reader) takeHead() Body {
	class := r.TakeClass()
	place := r.Place
	number := r.TakeDigit(len(r.Text.Methods))
	if r.Text.OwnBody(class, number) >= 0 {
		r.Refuse(place)
	}
	method := r.Text.MethodAt(number)
	locals := []byte{class, method.Argument}
	further := r.takeTypes(maxLocals, len(r.Text.Classes), ':')
	locals = append(locals, further...)
	return Body{Class: class, Method: number, Answer: method.Answer, Locals: locals}
}

func (r *Reader) takeMainHead() Body {
	locals := r.takeTypes(maxLocals, len(r.Text.Classes), ':')
	return Body{Class: NoClass, Answer: Number, Locals: locals}
}

// TakeOperands reads what stands behind the letter of an item that deals with a local, a class, a field or a method.
func (r *Reader) TakeOperands(item Item) Item {
	switch item.Letter {
	case 'l', 's':
		item.Number = r.TakeDigit(len(r.Body.Locals))
	case 'n', 'x':
		item.Class = r.TakeClass()
	case 'g', 'p':
		item.Class = r.TakeClass()
		fields := r.Text.FieldCount(item.Class)
		item.Number = r.TakeDigit(fields)
	case 'c':
		item.Class = r.TakeClass()
		item.Number = r.TakeDigit(len(r.Text.Methods))
	default:
		r.Refuse(item.Place)
	}
	return item
}

// EndBody reads the dot behind a body, and gives the text that body with what is to be done in it.
func (r *Reader) EndBody(items []Item) {
	r.Take('.')
	r.Body.Items = append([]Item{}, items...)
	r.Text.Bodies = append(r.Text.Bodies, r.Body)
}

// Result answers the text and NoPlace, or the place of the first byte that cannot stand there.
func (r *Reader) Result() (*Text, int) {
	if r.Failed || r.Place < len(r.whole) {
		return &Text{}, r.Place
	}
	return &r.Text, NoPlace
}
