package brew

import (
	"brew/code"
	"brew/table"
	"brew/text"
)

const maxImage = 2000

// findings is what the checker has found out about an image. Only with OK are there a text and tables, one for
// each body.
type findings struct {
	errno  Errno
	place  int
	text   *text.Text
	tables []table.Table
}

func examine(image string) findings {
	if len(image) > maxImage {
		return findings{errno: ErrLong}
	}
	read, place := code.Read(image)
	if place != code.NoPlace {
		return findings{errno: ErrForm, place: place}
	}
	place = code.BrokenLink(read)
	if place != code.NoPlace {
		return findings{errno: ErrLink, place: place}
	}
	tables := []table.Table{}
	for i := 0; i < len(read.Bodies); i++ {
		least, holds := table.Least(read, read.Bodies[i])
		if !holds {
			return findings{errno: ErrType, place: i}
		}
		tables = append(tables, least)
	}
	return findings{errno: OK, text: read, tables: tables}
}
