package code

// actions has what the instructions do, by their bytes: RunByTable looks them up here.
var actions [Same + 1]func(*run)

func init() {
	actions[Halt] = halt
	actions[Goes] = goes
	actions[Skip] = skip
	actions[Both] = both
	actions[Some] = some
	actions[Turn] = turn
	actions[Yes] = yes
	actions[Less] = less
	actions[Same] = same
}

// act does an instruction of a program that is right. It is a function beside the table, so that where a machine goes hangs on no variable.
func act(b byte, r *run) {
	switch b {
	case Halt:
		halt(r)
	case Goes:
		goes(r)
	case Skip:
		skip(r)
	case Both:
		both(r)
	case Some:
		some(r)
	case Turn:
		turn(r)
	case Yes:
		yes(r)
	case Less:
		less(r)
	case Same:
		same(r)
	}
}

func halt(r *run) {
	r.ended = true
}

func goes(r *run) {
	r.leaf = int(r.next())
	r.ended = true
}

func skip(r *run) {
	count := r.nextTwo()
	if !r.take() {
		r.at += count
	}
}

func both(r *run) {
	last, first := r.take(), r.take()
	r.put(first && last)
}

func some(r *run) {
	last, first := r.take(), r.take()
	r.put(first || last)
}

func turn(r *run) {
	r.put(!r.take())
}

func yes(r *run) {
	r.put(true)
}

func less(r *run) {
	number, bound := r.nextAsked()
	r.put(number < bound)
}

func same(r *run) {
	number, bound := r.nextAsked()
	r.put(number == bound)
}
