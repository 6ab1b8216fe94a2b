package code

import (
	"slices"
	"testing"
)

func TestIsRight(t *testing.T) {
	for _, c := range []struct {
		program         []byte
		leaves, numbers int
		want            bool
	}{
		{nil, 1, 0, false},
		{[]byte{Halt}, 1, 0, true},
		{[]byte{Goes, 2}, 3, 0, true},
		{[]byte{Goes, 2}, 2, 9, false},
		{[]byte{Less, 1, 0, 0, Halt}, 1, 2, true},
		{[]byte{Same, 2, 0, 0, Halt}, 9, 2, false},
		{[]byte{Yes, Skip, 1, 0, Halt, Halt}, 1, 0, true},
		{[]byte{Yes, Skip, 2, 0, Halt, Halt}, 1, 0, false},
		{[]byte{Yes, Skip, 0, 1, Halt, Halt}, 1, 0, false},
		{[]byte{Yes, Skip, 1, 0, Yes, Halt}, 1, 0, false},
		{[]byte{Skip, 0, 0, Halt}, 1, 0, false},
		{[]byte{Yes, Both, Halt}, 1, 0, false},
		{[]byte{Halt, Halt}, 1, 0, false},
		{[]byte{Halt, 9}, 1, 0, false},
		{[]byte{Goes}, 1, 0, false},
		{append(slices.Repeat([]byte{Yes}, 32), Halt), 1, 0, true},
		{append(slices.Repeat([]byte{Yes}, 33), Halt), 1, 0, false},
	} {
		program := slices.Clone(c.program)
		if got := IsRight(program, c.leaves, c.numbers); got != c.want || !slices.Equal(program, c.program) {
			t.Errorf("IsRight(%v, %d, %d) = %v", c.program, c.leaves, c.numbers, got)
		}
	}
}
