// Package code: images, whose bodies are lists of instructions.
package code

import "brew/text"

const maxInstructions = 100

// NoPlace stands where nothing is wrong.
const NoPlace = -1

// Read answers what an image holds and NoPlace, or the place of the first byte that cannot stand there.
func Read(image string) (*text.Text, int) {
	r := text.NewReader(image)
	r.ReadClasses()
	r.ReadMethods()
	for r.MoreBodies() {
		head := r.TakeHead()
		readBody(r, head)
	}
	r.Take(';')
	head := r.TakeMainHead()
	readBody(r, head)
	r.TakeEnd()
	if r.Failed {
		return &text.Text{}, r.Place
	}
	return &r.Text, NoPlace
}

func readBody(r *text.Reader, body text.Body) {
	first := takeInstruction(r, len(body.Locals))
	items := []text.Item{first}
	for len(items) < maxInstructions && r.Before('.') {
		item := takeInstruction(r, len(body.Locals))
		items = append(items, item)
	}
	r.Take('.')
	body.Items = items
	r.AddBody(body)
}

func takeInstruction(r *text.Reader, locals int) text.Item {
	item := text.Item{Place: r.Place, Class: text.NoClass}
	item.Letter = r.TakeByte()
	switch item.Letter {
	case 'r', 'w', '+', '-', '*', '/', '<', '=', 'e', 'z', 'd', 't':
		// These stand alone.
	case 'k':
		item.Number = r.TakeDigit(10)
	case 'l', 's':
		item.Number = r.TakeDigit(locals)
	case 'n', 'x':
		item.Class = r.TakeClass()
	case 'g', 'p':
		item.Class = r.TakeClass()
		fields := r.Text.FieldCount(item.Class)
		item.Number = r.TakeDigit(fields)
	case 'c':
		item.Class = r.TakeClass()
		item.Number = r.TakeDigit(len(r.Text.Methods))
	case 'j', 'f':
		item.Number = takeTarget(r)
	default:
		r.Refuse(item.Place)
	}
	return item
}

func takeTarget(r *text.Reader) int {
	tens := r.TakeDigit(10)
	ones := r.TakeDigit(10)
	return 10*tens + ones
}

// BrokenLink answers the place of the first instruction that goes on at, or calls, what there is not, or NoPlace.
func BrokenLink(t *text.Text) int {
	for i := 0; i < len(t.Bodies); i++ {
		items := t.Bodies[i].Items
		for k := 0; k < len(items); k++ {
			if isBroken(t, items[k], len(items)) {
				return items[k].Place
			}
		}
	}
	return NoPlace
}

func isBroken(t *text.Text, item text.Item, instructions int) bool {
	switch item.Letter {
	case 'j', 'f':
		return item.Number >= instructions
	case 'c':
		return t.BodyOf(item.Class, item.Number) < 0
	}
	return false
}
