package code

// maxTruths is the greatest count of truths that there may be at once.
const maxTruths = 32

// What stands at a byte of a program, where it is not the count of truths with which an instruction is come to.
const (
	open   = -1 // the first byte of an instruction that is not come to yet
	within = -2 // a byte that belongs to an instruction
)

// flow is a program that is gone through on all its ways at once: since no instruction goes back, once from its first byte to its last is enough.
type flow struct {
	program []byte
	counts  []int // by the program's bytes
}

// IsRight tells whether a program is right, in an image with so many leaves, for so many numbers of samples.
func IsRight(program []byte, leaves, numbers int) bool {
	counts, whole := cut(program)
	if !whole {
		return false
	}
	f := flow{program: program, counts: counts}
	if !f.come(0, 0) {
		return false
	}
	for at := range program {
		if counts[at] != within && !(f.isNamed(at, leaves, numbers) && f.goOn(at)) {
			return false
		}
	}
	return true
}

// cut finds the instructions' first bytes, and whether the program ends with the last one.
func cut(program []byte) ([]int, bool) {
	counts := make([]int, len(program))
	behind := 0 // what has been cut so far
	for at, b := range program {
		if at < behind {
			counts[at] = within
			continue
		}
		if int(b) >= len(actions) {
			return nil, false
		}
		counts[at] = open
		behind = at + 1 + actions[b].width
	}
	return counts, behind == len(program)
}

// come takes note that the byte is come to with so many truths, if that may be.
func (f *flow) come(at, count int) bool {
	if at >= len(f.program) || count > maxTruths {
		return false
	}
	if f.counts[at] != open && f.counts[at] != count {
		return false
	}
	f.counts[at] = count
	return true
}

// isNamed tells whether there is such a leaf, or such a number of the samples, as an instruction names.
func (f *flow) isNamed(at, leaves, numbers int) bool {
	switch f.program[at] {
	case Goes:
		return int(f.program[at+1]) < leaves
	case Less, Same:
		return int(f.program[at+1]) < numbers
	}
	return true
}

// goOn comes to all that is come to from an instruction, if it is come to itself, and with enough truths.
func (f *flow) goOn(at int) bool {
	b := f.program[at]
	a := actions[b]
	if f.counts[at] == open || f.counts[at] < a.takes {
		return false
	}
	if a.ends {
		return true
	}
	behind := at + 1 + a.width
	left := f.counts[at] - a.takes + a.puts
	if b == Skip && !f.come(behind+Two(f.program[at+1], f.program[at+2]), left) {
		return false
	}
	return f.come(behind, left)
}
