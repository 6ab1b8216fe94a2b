package code

// shape is what a check has to know of an instruction.
type shape struct {
	width int // how many bytes belong to it
	takes int // how many truths it takes
	puts  int // how many truths it puts
	ends  bool
}

// shapeOf tells the shape of an instruction, and whether there is one of that byte. It is a function beside the table of actions, so that whether a program is right hangs on no variable.
func shapeOf(b byte) (shape, bool) {
	switch b {
	case Halt:
		return shape{ends: true}, true
	case Goes:
		return shape{width: 1, ends: true}, true
	case Skip:
		return shape{width: 2, takes: 1}, true
	case Both, Some:
		return shape{takes: 2, puts: 1}, true
	case Turn:
		return shape{takes: 1, puts: 1}, true
	case Yes:
		return shape{puts: 1}, true
	case Less, Same:
		return shape{width: 3, puts: 1}, true
	}
	return shape{}, false
}
