// Package compiler: from the nodes of sources to the instructions of images.
package compiler

import (
	"brew/code"
	"brew/text"
)

// compiler holds the instructions of one body, as far as they have been laid down.
type compiler struct {
	body  text.Body // of the source
	items []text.Item
}

// Compile answers an image that does what a source does whose bodies all have types.
func Compile(source *text.Text) string {
	image := code.WriteBeginning(source)
	for i := 0; i < len(source.Bodies); i++ {
		instructions := compileBody(source.Bodies[i])
		image += code.WriteBody(source.Bodies[i], instructions)
	}
	return image
}

func compileBody(body text.Body) []text.Item {
	c := &compiler{body: body}
	c.compile(0)
	c.lay('t')
	return c.items
}

// compile lays down instructions that lay on the stack what a node comes to. It ends, since a part has a greater
// number than its node.
func (c *compiler) compile(number int) {
	node := c.body.ItemAt(number)
	switch node.Letter {
	case ',':
		c.compilePart(node, 0)
		c.lay('d')
		c.compilePart(node, 1)
	case 'i':
		c.compileChoice(node)
	case 'o':
		c.compileLoop(node)
	default:
		c.compilePart(node, 0)
		c.compilePart(node, 1)
		c.compileLast(node)
	}
}

// compilePart lays down nothing where a node has no such part.
func (c *compiler) compilePart(node text.Item, part int) {
	if part >= 0 && part < len(node.Parts) {
		c.compile(node.Parts[part])
	}
}

// compileLast lays down what is done with the parts of a node. Where the instruction lays nothing, the node comes to 0.
func (c *compiler) compileLast(node text.Item) {
	c.items = append(c.items, text.Item{Letter: node.Letter, Class: node.Class, Number: node.Number})
	switch node.Letter {
	case 's', 'p', 'w':
		c.lay('k')
	}
}

func (c *compiler) compileChoice(node text.Item) {
	c.compilePart(node, 0)
	toThird := c.lay('f')
	c.compilePart(node, 1)
	toEnd := c.lay('j')
	c.aimHere(toThird)
	c.compilePart(node, 2)
	c.aimHere(toEnd)
}

func (c *compiler) compileLoop(node text.Item) {
	beginning := len(c.items)
	c.compilePart(node, 0)
	toEnd := c.lay('f')
	c.compilePart(node, 1)
	c.lay('d')
	c.items = append(c.items, text.Item{Letter: 'j', Class: text.NoClass, Number: beginning})
	c.aimHere(toEnd)
	c.lay('k')
}

// lay lays down an instruction with the number 0, and answers its own number.
func (c *compiler) lay(letter byte) int {
	number := len(c.items)
	c.items = append(c.items, text.Item{Letter: letter, Class: text.NoClass})
	return number
}

// aimHere lets a jump go on at the instruction that is laid down next.
func (c *compiler) aimHere(jump int) {
	if jump >= 0 && jump < len(c.items) {
		c.items[jump].Number = len(c.items)
	}
}
