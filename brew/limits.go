package brew

import "brew/world"

// The limits of what a run is given.
const (
	maxInput = 40
	maxCells = 100
	maxFuel  = 4000
)

// errnoOf answers the error by which a run ends.
func errnoOf(fault world.Fault) Errno {
	switch fault {
	case world.Fuel:
		return ErrFuel
	case world.Null:
		return ErrNull
	case world.Div:
		return ErrDiv
	case world.Cast:
		return ErrCast
	case world.Memory:
		return ErrMemory
	case world.Deep:
		return ErrDeep
	}
	return OK
}
