package world

import "brew/text"

// CellsOf answers the cells that an object of a class takes.
func CellsOf(t *text.Text, class byte) int {
	return 1 + t.FieldCount(class)
}

// Reached counts the cells of the objects that can be reached from some values.
func (w *World) Reached(from []Value) int {
	w.counts++
	cells := 0
	found := w.unseen(from)
	// The loop ends: each object is found once in a count.
	for i := 0; i < len(found); i++ {
		cells += CellsOf(w.text, found[i].class)
		more := w.unseen(found[i].fields)
		found = append(found, more...)
	}
	return cells
}

// unseen answers the objects that some values refer to and that this count has not come to, and notes that it has now.
func (w *World) unseen(from []Value) []*object {
	found := []*object{}
	for i := 0; i < len(from); i++ {
		referred := w.objectOf(from[i])
		if referred != nil && referred.seen != w.counts {
			referred.seen = w.counts
			found = append(found, referred)
		}
	}
	return found
}
