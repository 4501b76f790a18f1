// Package brew: a small object language, the images it is compiled to, their checker and their machine: see DOC.md.
package brew

import (
	"brew/compiler"
	"brew/evaluator"
	"brew/machine"
	"brew/table"
)

// Errno is what a call answers: OK, the reason for a refusal, or why a run ended early.
type Errno int

const (
	OK        Errno = 0
	ErrLong   Errno = 1  // a text or a number beyond its bound
	ErrForm   Errno = 2  // the text is no image, or no source
	ErrLink   Errno = 3  // a jump or a call to what there is not
	ErrType   Errno = 4  // a body has no types
	ErrFuel   Errno = 5  // the steps are spent
	ErrNull   Errno = 6  // a field or a method of null
	ErrDiv    Errno = 7  // division by 0
	ErrCast   Errno = 8  // an object of another class
	ErrMemory Errno = 9  // there is no room for an object
	ErrDeep   Errno = 10 // too many calls within calls
)

// Check tells whether an image can be run (P3 to P6).
func Check(image string) (Errno, int) {
	found := examineImage(image)
	return found.errno, found.place
}

// Types writes the table of an image (P7).
func Types(image string) (string, Errno) {
	found := examineImage(image)
	written := ""
	for i := 0; i < len(found.tables); i++ {
		written += table.Write(found.tables[i])
	}
	return written, found.errno
}

// Run runs an image (P8 to P13).
func Run(image string, input string, cells int, fuel int) (string, int, Errno) {
	if len(input) > maxInput || cells < 0 || cells > maxCells || fuel < 0 || fuel > maxFuel {
		return "", 0, ErrLong
	}
	found := examineImage(image)
	if found.errno != OK {
		return "", 0, found.errno
	}
	out, answer, fault := machine.Run(found.text, found.tables, input, cells, fuel)
	return out, answer, errnoOf(fault)
}

// Scan tells whether a source is well formed and typed (P14, P15).
func Scan(source string) (Errno, int) {
	found := examineSource(source)
	return found.errno, found.place
}

// Eval works a source out (P16 to P19).
func Eval(source string, input string, fuel int) (string, int, Errno) {
	if len(input) > maxInput || fuel < 0 || fuel > maxFuel {
		return "", 0, ErrLong
	}
	found := examineSource(source)
	if found.errno != OK {
		return "", 0, found.errno
	}
	out, value, fault := evaluator.Eval(found.text, input, fuel)
	return out, value, errnoOf(fault)
}

// Compile answers an image that does what a source says (P20, P21).
func Compile(source string) (string, Errno) {
	found := examineSource(source)
	if found.errno != OK {
		return "", found.errno
	}
	return compiler.Compile(found.text), OK
}
