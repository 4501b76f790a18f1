package nodes

import "brew/text"

// HasType tells whether the node of a body has a type that fits the body's answer.
func HasType(t *text.Text, body text.Body) bool {
	types := make([]byte, len(body.Items))
	// A node without a type leaves those that it is a part of without one too.
	for i := len(body.Items) - 1; i >= 0; i-- {
		parts := typesOfParts(body.Items[i], types)
		if !accepts(t, body, body.Items[i], parts) {
			return false
		}
		types[i] = typeOf(t, body, body.Items[i], parts)
		if types[i] == text.Unusable {
			return false
		}
	}
	return t.Fits(text.TypeAt(types, 0), body.Answer)
}

func typesOfParts(node text.Item, types []byte) []byte {
	parts := []byte{}
	for i := 0; i < len(node.Parts); i++ {
		part := text.TypeAt(types, node.Parts[i])
		parts = append(parts, part)
	}
	return parts
}

// accepts tells whether the types of a node's parts are those that it asks for.
func accepts(t *text.Text, body text.Body, node text.Item, parts []byte) bool {
	asked := asks(t, body, node)
	for i := 0; i < len(asked); i++ {
		if !t.Suits(text.TypeAt(parts, i), asked[i]) {
			return false
		}
	}
	return true
}

// asks answers the types that a node asks of its first parts; any type will do for the others.
func asks(t *text.Text, body text.Body, node text.Item) []byte {
	switch node.Letter {
	case 'i', 'o':
		return []byte{text.Number}
	case 's':
		return []byte{text.TypeAt(body.Locals, node.Number)}
	}
	return t.Takes(node, text.Unusable)
}

// typeOf answers the type of a node whose parts have those that it asks for; Unusable stands for none.
func typeOf(t *text.Text, body text.Body, node text.Item, parts []byte) byte {
	switch node.Letter {
	case 's', 'p', 'w', 'o':
		return text.Number
	case ',':
		return text.TypeAt(parts, 1)
	case 'i':
		return t.Meeting(text.TypeAt(parts, 1), text.TypeAt(parts, 2))
	}
	return t.Lays(node, body.Locals)
}
