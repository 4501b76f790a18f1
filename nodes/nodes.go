// Package nodes: sources, whose bodies are trees of nodes.
package nodes

import "brew/text"

const maxNodes = 24

// Read answers what a source holds and text.NoPlace, or the place of the first byte that cannot stand there. The
// first item of a body is its whole node, and a node stands ahead of its parts.
func Read(source string) (*text.Text, int) {
	r := text.NewReader(source)
	r.ReadClasses()
	r.ReadMethods()
	for r.NextBody() {
		nodes := takeNodes(r)
		r.EndBody(nodes)
	}
	return r.Result()
}

func takeNodes(r *text.Reader) []text.Item {
	nodes := []text.Item{}
	missing := 1 // how many nodes must still be read, as far as those that have been read tell
	for missing > 0 && len(nodes) < maxNodes && !r.Failed {
		node := takeNode(r)
		nodes = append(nodes, node)
		missing += countParts(node.Letter) - 1
	}
	if missing > 0 {
		place := r.Place
		r.Refuse(place)
	}
	return withParts(nodes)
}

func takeNode(r *text.Reader) text.Item {
	node := text.Item{Place: r.Place, Class: text.NoClass}
	node.Letter = r.TakeByte()
	switch node.Letter {
	case 'r', 'z', '+', '-', '*', '/', '<', '=', 'e', 'w', ',', 'i', 'o':
		return node // only parts stand behind these
	case '0', '1', '2', '3', '4', '5', '6', '7', '8', '9':
		node.Number = int(node.Letter - '0')
		node.Letter = 'k'
		return node
	}
	return r.TakeOperands(node)
}

// countParts answers how many parts a node has.
func countParts(letter byte) int {
	switch letter {
	case 'g', 'x', 's', 'w':
		return 1
	case '+', '-', '*', '/', '<', '=', 'e', 'c', 'p', ',', 'o':
		return 2
	case 'i':
		return 3
	}
	return 0
}

// withParts answers the nodes with the numbers of their parts.
func withParts(nodes []text.Item) []text.Item {
	whole := append([]text.Item{}, nodes...)
	behind := make([]int, len(whole)) // for each node, the number of the first one that is neither it nor in it
	for i := len(whole) - 1; i >= 0; i-- {
		parts := []int{}
		part := i + 1
		for len(parts) < countParts(whole[i].Letter) && part < len(behind) {
			parts = append(parts, part)
			part = behind[part]
		}
		whole[i].Parts = parts
		behind[i] = part
	}
	return whole
}
