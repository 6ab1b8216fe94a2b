package emit

import (
	"slices"
	"testing"

	"helm/api"
	. "helm/code"
	"helm/table"
)

func TestPrograms(t *testing.T) {
	for _, c := range []struct {
		text string
		want []byte // of the last leaf
	}{
		{"mode a { when true stay; }", []byte{Yes, Skip, 1, 0, Halt, Halt}},
		{"mode a { when true to a; }", []byte{Yes, Skip, 2, 0, Goes, 0, Halt}},
		{"mode a { when not true to c; default mode b { } mode c { when true to a; default mode d { } mode e { when true stay; } } }",
			[]byte{Yes, Turn, Skip, 2, 0, Goes, 1, Yes, Skip, 2, 0, Goes, 0, Yes, Skip, 1, 0, Halt, Halt}},
		{"var x 0 .. 9; mode a { when x < 1 or was x == 2 and (x > 3 or not x != 4) stay; }",
			[]byte{Less, 1, 1, 0, Same, 0, 2, 0, Less, 1, 4, 0, Turn, Same, 1, 4, 0, Turn, Turn, Some, Both, Some, Skip, 1, 0, Halt, Halt}},
	} {
		read, fault := table.Read(c.text)
		if fault.Code != api.OK {
			t.Fatalf("Read(%q): %+v", c.text, fault)
		}
		w := writer{table: read, leaves: read.Leaves()}
		if got := w.program(w.leaves[len(w.leaves)-1]); !slices.Equal(got, c.want) {
			t.Errorf("the program of %q: %v, want %v", c.text, got, c.want)
		}
	}
}

func TestImage(t *testing.T) {
	read, _ := table.Read("mode a { when true stay; }")
	if got := Image(read); got != "HELM1\x00\x01\x00\x01a\x06\x00\x06\x02\x01\x00\x00\x00\xf1\x7d\x6a\x07" {
		t.Errorf("the image: %x", got)
	}
}
