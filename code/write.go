package code

import (
	"strconv"

	"brew/text"
)

// WriteBeginning answers the classes and methods of a text, as they are written in an image.
func WriteBeginning(t *text.Text) string {
	out := ""
	for i := 0; i < len(t.Classes); i++ {
		class := t.Classes[i]
		inherited := t.FieldCount(class.Parent)
		out += string([]byte{class.Parent}) + typesFrom(class.Fields, inherited) + "."
	}
	out += ";"
	for i := 0; i < len(t.Methods); i++ {
		method := t.Methods[i]
		out += string([]byte{method.Argument, method.Answer, '.'})
	}
	return out + ";"
}

// WriteBody answers a body that does some instructions, as it is written in an image; what the body itself says of
// what is to be done is left out.
func WriteBody(body text.Body, instructions []text.Item) string {
	out := writeHead(body) + ":"
	for i := 0; i < len(instructions); i++ {
		out += writeInstruction(instructions[i])
	}
	return out + "."
}

func typesFrom(types []byte, first int) string {
	out := []byte{}
	for i := first; i >= 0 && i < len(types); i++ {
		out = append(out, types[i])
	}
	return string(out)
}

func writeHead(body text.Body) string {
	if body.Class == text.NoClass {
		return ";" + typesFrom(body.Locals, 0) // the main body, behind the end of the others
	}
	further := typesFrom(body.Locals, 2) // the object's type and the argument's are not written
	return string([]byte{body.Class}) + strconv.Itoa(body.Method) + further
}

func writeInstruction(item text.Item) string {
	out := string([]byte{item.Letter})
	switch item.Letter {
	case 'n', 'x', 'g', 'p', 'c':
		out += string([]byte{item.Class})
	}
	switch item.Letter {
	case 'k', 'l', 's', 'g', 'p', 'c':
		out += strconv.Itoa(item.Number)
	case 'j', 'f':
		out += strconv.Itoa(item.Number/10) + strconv.Itoa(item.Number%10)
	}
	return out
}
