package text

// BrokenLink answers the place of the first item that goes on at, or calls, what there is not, or NoPlace.
func BrokenLink(t *Text) int {
	for i := 0; i < len(t.Bodies); i++ {
		items := t.Bodies[i].Items
		for k := 0; k < len(items); k++ {
			if isBroken(t, items[k], len(items)) {
				return items[k].Place
			}
		}
	}
	return NoPlace
}

func isBroken(t *Text, item Item, items int) bool {
	switch item.Letter {
	case 'j', 'f':
		return item.Number >= items
	case 'c':
		return t.BodyOf(item.Class, item.Number) < 0
	}
	return false
}
