package brew

import (
	"brew/code"
	"brew/nodes"
	"brew/table"
	"brew/text"
)

// The limits of a text's length.
const (
	maxImage  = 2000
	maxSource = 400
)

// findings is what has been found out about an image or a source. Only with OK is there a text, and, of an image,
// a table for each body.
type findings struct {
	errno  Errno
	place  int
	text   *text.Text
	tables []table.Table
}

func examineImage(image string) findings {
	if len(image) > maxImage {
		return findings{errno: ErrLong}
	}
	read, place := code.Read(image)
	found := formAndLinks(read, place)
	for i := 0; i < len(read.Bodies) && found.errno == OK; i++ {
		least, holds := table.Least(read, read.Bodies[i])
		if !holds {
			return findings{errno: ErrType, place: i}
		}
		found.tables = append(found.tables, least)
	}
	return found
}

func examineSource(source string) findings {
	if len(source) > maxSource {
		return findings{errno: ErrLong}
	}
	read, place := nodes.Read(source)
	found := formAndLinks(read, place)
	for i := 0; i < len(read.Bodies) && found.errno == OK; i++ {
		if !nodes.HasType(read, read.Bodies[i]) {
			return findings{errno: ErrType, place: i}
		}
	}
	return found
}

// formAndLinks answers what there is to find ahead of a look at the types, of a text that was read up to a place.
func formAndLinks(read *text.Text, place int) findings {
	if place != text.NoPlace {
		return findings{errno: ErrForm, place: place}
	}
	broken := text.BrokenLink(read)
	if broken != text.NoPlace {
		return findings{errno: ErrLink, place: broken}
	}
	return findings{errno: OK, text: read}
}
