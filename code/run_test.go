package code

import "testing"

func TestRun(t *testing.T) {
	for _, c := range []struct {
		program []byte
		want    int
	}{
		{[]byte{Halt}, 4},
		{[]byte{Goes, 7}, 7},
		{[]byte{Yes, Skip, 2, 0, Goes, 1, Goes, 2}, 1},
		{[]byte{Yes, Turn, Skip, 2, 0, Goes, 1, Goes, 2}, 2},
		{[]byte{Less, 0, 0xfe, 0xff, Skip, 2, 0, Goes, 1, Goes, 2}, 1},
		{[]byte{Less, 0, 0xfd, 0xff, Skip, 2, 0, Goes, 1, Goes, 2}, 2},
		{[]byte{Same, 1, 0x2c, 0x01, Skip, 2, 0, Goes, 1, Goes, 2}, 1},
		{[]byte{Same, 1, 0x2c, 0x02, Skip, 2, 0, Goes, 1, Goes, 2}, 2},
		{[]byte{Same, 1, 0x2c, 0x01, Same, 0, 0, 0, Both, Skip, 2, 0, Goes, 1, Goes, 2}, 2},
		{[]byte{Same, 1, 0x2c, 0x01, Same, 0, 0, 0, Some, Skip, 2, 0, Goes, 1, Goes, 2}, 1},
	} {
		if got := Run(c.program, []int{-3, 300}, 4); got != c.want {
			t.Errorf("Run(%v) = %d, want %d", c.program, got, c.want)
		}
		if got := RunByTable(c.program, []int{-3, 300}, 4); got != c.want {
			t.Errorf("RunByTable(%v) = %d, want %d", c.program, got, c.want)
		}
	}
}

// TestRunAndTableAreOfOneMind: with all right programs of few bytes.
func TestRunAndTableAreOfOneMind(t *testing.T) {
	right := 0
	for _, program := range shortPrograms(6) {
		if !IsRight(program, 3, 2) {
			continue
		}
		right++
		for _, numbers := range [][]int{{0, 0}, {1, 513}, {1284, -1}} {
			run, byTable := Run(program, numbers, 2), RunByTable(program, numbers, 2)
			if run != byTable {
				t.Fatalf("of %v: Run(%v) = %d, RunByTable %d", numbers, program, run, byTable)
			}
		}
	}
	if right < 1000 {
		t.Errorf("only %d programs are right", right)
	}
}

// shortPrograms makes all programs of at most so many bytes, none of them above the greatest instruction's.
func shortPrograms(most int) [][]byte {
	all := [][]byte{{}}
	for from := 0; most > 0; most-- {
		shorter := all[from:]
		from = len(all)
		for _, program := range shorter {
			for b := Halt; b <= Same; b++ {
				all = append(all, append(program[:len(program):len(program)], b))
			}
		}
	}
	return all
}

// TestAnswersHangOnNoVariable: without the table programs are checked and run as with it, and only RunByTable asks for it.
func TestAnswersHangOnNoVariable(t *testing.T) {
	filled := actions
	defer func() { actions = filled }()
	program := []byte{Yes, Turn, Less, 0, 5, 0, Some, Yes, Both, Same, 1, 7, 0, Both, Skip, 2, 0, Goes, 1, Halt}
	for _, table := range [][Same + 1]func(*run){filled, {}} {
		actions = table
		if !IsRight(program, 2, 2) || IsRight(program, 1, 2) {
			t.Errorf("IsRight answers otherwise without the table")
		}
		if there, stays := Run(program, []int{4, 7}, 0), Run(program, []int{5, 7}, 0); there != 1 || stays != 0 {
			t.Errorf("Run: at %d and %d", there, stays)
		}
	}
	actions[Halt] = func(r *run) { r.leaf, r.ended = 9, true }
	if got := RunByTable([]byte{Halt}, nil, 0); got != 9 {
		t.Errorf("RunByTable: at %d: it does not look up what HALT does", got)
	}
}
