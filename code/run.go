package code

// run is a program on its way.
type run struct {
	program []byte
	at      int   // the next byte of the program
	numbers []int // of the sample ahead, then of this one
	truths  []bool
	leaf    int
	ended   bool
}

// Run goes through a program that is right and tells at which leaf the machine is then. It ends, since no instruction goes back.
func Run(program []byte, numbers []int, leaf int) int {
	r := run{program: program, numbers: numbers, leaf: leaf}
	for !r.ended {
		act(r.next(), &r)
	}
	return r.leaf
}

// RunByTable does as Run does, but looks up in the table what the instructions do: what stands there can be held against what machines do.
func RunByTable(program []byte, numbers []int, leaf int) int {
	r := run{program: program, numbers: numbers, leaf: leaf}
	for !r.ended {
		actions[r.next()](&r)
	}
	return r.leaf
}

func (r *run) next() byte {
	b := r.program[r.at]
	r.at++
	return b
}

func (r *run) nextTwo() int {
	low := r.next()
	return Two(low, r.next())
}

// nextAsked is the samples' number that an instruction asks for, and the one that it is held against.
func (r *run) nextAsked() (int, int) {
	which := r.next()
	return r.numbers[which], Signed(r.nextTwo())
}

func (r *run) put(truth bool) {
	r.truths = append(r.truths, truth)
}

func (r *run) take() bool {
	last := len(r.truths) - 1
	truth := r.truths[last]
	r.truths = r.truths[:last]
	return truth
}
