package cases

import (
	"slices"
	"strconv"
	"testing"

	"helm/api"
	"helm/table"
)

func TestFind(t *testing.T) {
	for _, c := range []struct {
		text string
		want api.Fault
	}{
		{"mode a { when true stay; }", api.Fault{}},
		{"mode a { }", api.Fault{Code: api.ErrGap, Mode: "a"}},
		{"var x 0 .. 9; mode a { when x < 5 stay; when x > 4 stay; }", api.Fault{}},
		{"var x 0 .. 9; mode a { when x < 5 stay; when x > 5 stay; }", api.Fault{Code: api.ErrGap, Mode: "a", Before: []int{0}, Now: []int{5}}},
		{"var x 0 .. 9; mode a { when x <= 5 stay; when x >= 5 stay; }", api.Fault{Code: api.ErrOverlap, Mode: "a", Before: []int{0}, Now: []int{5}}},
		{"var x 0 .. 9; var y 1 .. 3; mode a { when not (was y == 2 and x == 8) stay; }", api.Fault{Code: api.ErrGap, Mode: "a", Before: []int{0, 2}, Now: []int{8, 1}}},
		{"var x 0 .. 9; mode a { when x == 0 or was x == 0 stay; }", api.Fault{Code: api.ErrGap, Mode: "a", Before: []int{1}, Now: []int{1}}},
		{"mode a { default mode b { } mode c { } }", api.Fault{Code: api.ErrGap, Mode: "b"}},
		{"mode a { default mode b { when true stay; } mode c { when not true stay; } }", api.Fault{Code: api.ErrGap, Mode: "c"}},
		{"mode a { default mode b { when true stay; when true stay; } mode c { when true stay; when true stay; } }", api.Fault{Code: api.ErrOverlap, Mode: "b"}},
		{"mode a { default mode b { } mode c { when true stay; when true stay; } }", api.Fault{Code: api.ErrOverlap, Mode: "c"}},
		{"mode a { when true stay; default mode b { } mode c { when true stay; when true stay; } }", api.Fault{}},
	} {
		read, fault := table.Read(c.text)
		if fault.Code != api.OK {
			t.Fatalf("Read(%q): %+v", c.text, fault)
		}
		f := Find(read)
		if f.Code != c.want.Code || f.Line != 0 || f.Mode != c.want.Mode || !slices.Equal(f.Before, c.want.Before) || !slices.Equal(f.Now, c.want.Now) || (f.Before == nil) != (f.Code == api.OK) || (f.Now == nil) != (f.Code == api.OK) {
			t.Errorf("Find of %q: %+v, want %+v", c.text, f, c.want)
		}
	}
}

func TestJudge(t *testing.T) {
	path := []rowSet{0b0011, 0, 0b1100}
	for isTrue, want := range map[rowSet]api.Errno{0: api.ErrGap, 0b10000: api.ErrGap, 1: api.OK, 3: api.ErrOverlap, 0b0100: api.OK, 0b1100: api.ErrOverlap, 0b1101: api.OK, 0b1111: api.ErrOverlap} {
		if got := judge(path, isTrue); got != want {
			t.Errorf("judge of %b: %d, want %d", isTrue, got, want)
		}
	}
}

func TestLeastOnes(t *testing.T) {
	for _, c := range []struct {
		first, last int
		cuts, want  []int
	}{
		{0, 9, nil, []int{0}},
		{5, 5, []int{5, 6, 4}, []int{5}},
		{0, 9, []int{9, 10, 0, -1, 3, 3, 1}, []int{0, 1, 3, 9}},
		{-3, -1, []int{-2, -1, 0}, []int{-3, -2, -1}},
	} {
		if got := leastOnes(c.first, c.last, c.cuts); !slices.Equal(got, c.want) {
			t.Errorf("from %d to %d, cut at %v: %v, want %v", c.first, c.last, c.cuts, got, c.want)
		}
	}
}

func TestCombine(t *testing.T) {
	text := ""
	for _, list := range combine([][]int{{1, 2}, {3}, {4, 5, 6}}) {
		for _, n := range list {
			text += strconv.Itoa(n)
		}
		text += " "
	}
	if want := "134 135 136 234 235 236 "; text != want {
		t.Errorf("combined %s, want %s", text, want)
	}
	if none := combine(nil); len(none) != 1 || len(none[0]) != 0 {
		t.Errorf("combined of nothing %v", none)
	}
}
