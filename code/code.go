// Package code: images, whose bodies are lists of instructions.
package code

import "brew/text"

const maxInstructions = 100

// Read answers what an image holds and text.NoPlace, or the place of the first byte that cannot stand there.
func Read(image string) (*text.Text, int) {
	r := text.NewReader(image)
	r.ReadClasses()
	r.ReadMethods()
	for r.NextBody() {
		instructions := takeInstructions(r)
		r.EndBody(instructions)
	}
	return r.Result()
}

func takeInstructions(r *text.Reader) []text.Item {
	first := takeInstruction(r)
	items := []text.Item{first}
	for len(items) < maxInstructions && r.Before('.') {
		item := takeInstruction(r)
		items = append(items, item)
	}
	return items
}

func takeInstruction(r *text.Reader) text.Item {
	item := text.Item{Place: r.Place, Class: text.NoClass}
	item.Letter = r.TakeByte()
	switch item.Letter {
	case 'r', 'w', '+', '-', '*', '/', '<', '=', 'e', 'z', 'd', 't':
		return item // these stand alone
	case 'k':
		item.Number = r.TakeDigit(10)
		return item
	case 'j', 'f':
		item.Number = takeTarget(r)
		return item
	}
	return r.TakeOperands(item)
}

func takeTarget(r *text.Reader) int {
	tens := r.TakeDigit(10)
	ones := r.TakeDigit(10)
	return 10*tens + ones
}
