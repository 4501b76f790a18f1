package text

// The types that are no classes; a class's type is its letter.
const (
	Number   byte = 'i'
	Null     byte = 'z'
	Unusable byte = '-'
)

// Reference stands among the types that an item takes where any reference will do; no value has it for its type.
const Reference byte = '&'

// Nothing stands where an item lays no type.
const Nothing byte = 0

// ComesFrom tells whether both are classes, and the second is the first or one of its ancestors.
func (t *Text) ComesFrom(class byte, ancestor byte) bool {
	letter := class
	// No class comes from more classes than there are.
	for i := 0; i < len(t.Classes) && t.IsClass(letter); i++ {
		if letter == ancestor {
			return true
		}
		letter = t.Parent(letter)
	}
	return false
}

// Fits tells whether what has the first type can be taken for something of the second.
func (t *Text) Fits(first byte, second byte) bool {
	if first == second || second == Unusable {
		return true
	}
	if first == Null {
		return t.IsClass(second)
	}
	return t.ComesFrom(first, second)
}

// Meeting answers the least type where both types fit.
func (t *Text) Meeting(first byte, second byte) byte {
	if t.Fits(first, second) {
		return second
	}
	letter := first
	for i := 0; i < len(t.Classes) && t.IsClass(letter); i++ {
		if t.Fits(second, letter) {
			return letter
		}
		letter = t.Parent(letter)
	}
	return Unusable
}

// Suits tells whether a type is one that an item takes where it asks for another.
func (t *Text) Suits(have byte, asked byte) bool {
	if asked == Reference {
		return have == Null || t.IsClass(have)
	}
	return t.Fits(have, asked)
}

// Takes answers the types that an item of a body asks for, the top of the stack last.
func (t *Text) Takes(item Item, answer byte) []byte {
	switch item.Letter {
	case 'w', 'f':
		return []byte{Number}
	case 's', 'd':
		return []byte{Unusable} // every type fits it
	case '+', '-', '*', '/', '<', '=':
		return []byte{Number, Number}
	case 'e':
		return []byte{Reference, Reference}
	case 'g':
		return []byte{item.Class}
	case 'p':
		return []byte{item.Class, t.FieldType(item.Class, item.Number)}
	case 'c':
		return []byte{item.Class, t.MethodAt(item.Number).Argument}
	case 'x':
		return []byte{Reference}
	case 't':
		return []byte{answer}
	}
	return []byte{}
}

// Lays answers the type that an item lays on the stack, or Nothing.
func (t *Text) Lays(item Item, locals []byte) byte {
	switch item.Letter {
	case 'k', 'r', '+', '-', '*', '/', '<', '=', 'e':
		return Number
	case 'l':
		return TypeAt(locals, item.Number)
	case 'n', 'x':
		return item.Class
	case 'z':
		return Null
	case 'g':
		return t.FieldType(item.Class, item.Number)
	case 'c':
		return t.MethodAt(item.Number).Answer
	}
	return Nothing
}
