package code

// action is what there is to know of an instruction.
type action struct {
	width int // how many bytes belong to it
	takes int // how many truths it takes
	puts  int // how many truths it puts
	ends  bool
	do    func(*run)
}

// actions has the instructions by their bytes: to check a program and to run it is to look them up here.
var actions [Same + 1]action

func init() {
	actions[Halt] = action{ends: true, do: halt}
	actions[Goes] = action{width: 1, ends: true, do: goes}
	actions[Skip] = action{width: 2, takes: 1, do: skip}
	actions[Both] = action{takes: 2, puts: 1, do: both}
	actions[Some] = action{takes: 2, puts: 1, do: some}
	actions[Turn] = action{takes: 1, puts: 1, do: turn}
	actions[Yes] = action{puts: 1, do: yes}
	actions[Less] = action{width: 3, puts: 1, do: less}
	actions[Same] = action{width: 3, puts: 1, do: same}
}

func halt(r *run) {
	r.ended = true
}

func goes(r *run) {
	r.leaf = int(r.next())
	r.ended = true
}

func skip(r *run) {
	count := r.nextTwo()
	if !r.take() {
		r.at += count
	}
}

func both(r *run) {
	last, first := r.take(), r.take()
	r.put(first && last)
}

func some(r *run) {
	last, first := r.take(), r.take()
	r.put(first || last)
}

func turn(r *run) {
	r.put(!r.take())
}

func yes(r *run) {
	r.put(true)
}

func less(r *run) {
	number, bound := r.nextAsked()
	r.put(number < bound)
}

func same(r *run) {
	number, bound := r.nextAsked()
	r.put(number == bound)
}
