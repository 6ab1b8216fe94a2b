package code

import (
	"slices"
	"testing"
)

func TestShapesAreWhatTheDocumentSays(t *testing.T) {
	want := []shape{{0, 0, 0, true}, {1, 0, 0, true}, {2, 1, 0, false}, {0, 2, 1, false}, {0, 2, 1, false}, {0, 1, 1, false}, {0, 0, 1, false}, {3, 0, 1, false}, {3, 0, 1, false}}
	for b := range 256 {
		got, isKnown := shapeOf(byte(b))
		if isKnown != (b < len(want)) || isKnown && got != want[b] || !isKnown && got != (shape{}) {
			t.Errorf("shapeOf(%d) = %+v, %v", b, got, isKnown)
		}
	}
}

// TestActionsDoAsTheirShapesSay: what the table has is what the check believes of it, and what a machine does.
func TestActionsDoAsTheirShapesSay(t *testing.T) {
	for b, do := range actions {
		s, isKnown := shapeOf(byte(b))
		if !isKnown || do == nil {
			t.Fatalf("instruction %d: %v, %v", b, isKnown, do == nil)
		}
		for pattern := range 4 {
			truths := []bool{true, false, pattern&2 != 0, pattern&1 != 0}
			r := run{program: make([]byte, 4), at: 1, numbers: []int{pattern - 1}, truths: slices.Clone(truths), leaf: 7}
			other := r
			other.truths = slices.Clone(truths)
			do(&r)
			act(byte(b), &other)
			if !isSameRun(r, other) {
				t.Errorf("instruction %d: the table makes %+v, the function %+v", b, r, other)
			}
			if kept := 4 - s.takes; len(r.truths) != kept+s.puts || !slices.Equal(r.truths[:kept], truths[:kept]) {
				t.Errorf("instruction %d: of %v it makes %v", b, truths, r.truths)
			}
			if r.at != 1+s.width || r.ended != s.ends {
				t.Errorf("instruction %d: at %d, ended %v", b, r.at, r.ended)
			}
		}
	}
	if _, isKnown := shapeOf(byte(len(actions))); isKnown {
		t.Errorf("instruction %d has no action", len(actions))
	}
}

func isSameRun(a, b run) bool {
	return a.at == b.at && a.leaf == b.leaf && a.ended == b.ended && slices.Equal(a.truths, b.truths)
}
