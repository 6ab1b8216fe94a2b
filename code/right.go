package code

// maxTruths is the greatest count of truths that there may be at once.
const maxTruths = 32

// flow is a program that is gone through on all its ways at once: since no instruction goes back, once from its first byte to its last is enough.
type flow struct {
	program         []byte
	leaves, numbers int
	awaited         map[int]int // the places that are come to, and not gone over yet, each with its count of truths
}

// IsRight tells whether a program is right, in an image with so many leaves, for so many numbers of samples.
func IsRight(program []byte, leaves, numbers int) bool {
	f := flow{program: program, leaves: leaves, numbers: numbers, awaited: map[int]int{0: 0}}
	for at := 0; at < len(program); {
		behind, ok := f.goOver(at)
		if !ok {
			return false
		}
		at = behind
	}
	// what is awaited still is within an instruction, or behind the program
	return len(f.awaited) == 0
}

// goOver comes to all that is come to from an instruction, if it may stand where it stands, and tells the place behind it.
func (f *flow) goOver(at int) (int, bool) {
	b := f.program[at]
	s, isKnown := shapeOf(b)
	count, isAwaited := f.awaited[at]
	if !isKnown || !isAwaited {
		return 0, false
	}
	delete(f.awaited, at)
	behind := at + 1 + s.width
	if behind > len(f.program) || count < s.takes || !f.isNamed(at) {
		return 0, false
	}
	if s.ends {
		return behind, true
	}
	left := count - s.takes + s.puts
	if b == Skip && !f.come(behind+Two(f.program[at+1], f.program[at+2]), left) {
		return 0, false
	}
	return behind, f.come(behind, left)
}

// come takes note that a place is come to with so many truths, if that may be.
func (f *flow) come(at, count int) bool {
	known, isAwaited := f.awaited[at]
	if count > maxTruths || isAwaited && known != count {
		return false
	}
	f.awaited[at] = count
	return true
}

// isNamed tells whether there is such a leaf, or such a number of the samples, as an instruction names.
func (f *flow) isNamed(at int) bool {
	switch f.program[at] {
	case Goes:
		return int(f.program[at+1]) < f.leaves
	case Less, Same:
		return int(f.program[at+1]) < f.numbers
	}
	return true
}
