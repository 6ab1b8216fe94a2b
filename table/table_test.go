package table

import (
	"strings"
	"testing"

	"helm/api"
)

// show writes a guard with all its parentheses, so that its shape is seen.
func show(g Guard) string {
	switch g := g.(type) {
	case Or:
		return "[" + show(g.Left) + " or " + show(g.Right) + "]"
	case And:
		return "[" + show(g.Left) + " and " + show(g.Right) + "]"
	case Not:
		return "[not " + show(g.Of) + "]"
	case Group:
		return "(" + show(g.Of) + ")"
	case True:
		return "true"
	case Atom:
		was := ""
		if g.Was {
			was = "was "
		}
		return was + g.Name.Text + g.Op.Text + g.Number.Text
	}
	return "?"
}

func TestReadShapesGuards(t *testing.T) {
	for _, c := range []struct{ guard, want string }{
		{"true", "true"},
		{"x < 1 or x < 2 and x < 3 or true", "[[x<1 or [x<2 and x<3]] or true]"},
		{"not x < 1 and not not true", "[[not x<1] and [not [not true]]]"},
		{"not (was x == 1 or x != 2) and x >= 03", "[[not ([was x==1 or x!=2])] and x>=3]"},
		{"true and true and true", "[[true and true] and true]"},
	} {
		table, fault := Read("var x 0 .. 9; mode a { when " + c.guard + " stay; }")
		if fault.Code != api.OK {
			t.Errorf("Read of %q: %+v", c.guard, fault)
			continue
		}
		if got := show(table.Modes[0].Rows[0].Guard); got != c.want {
			t.Errorf("Read of %q: %s, want %s", c.guard, got, c.want)
		}
	}
}

func TestReadShapesTheTree(t *testing.T) {
	table, fault := Read("var x -5 .. 6; mode a { when true to c; when true stay; mode b { } default mode c { default mode d { } mode e { } } }")
	if fault.Code != api.OK {
		t.Fatalf("Read: %+v", fault)
	}
	var got []string
	for _, m := range table.Modes {
		line := strings.Repeat(".", m.Depth) + m.Name.Text
		if m.Default {
			line += "*"
		}
		for _, in := range m.Within {
			line += in.Name.Text
		}
		got = append(got, line)
	}
	if want := "abc .b .c*de ..d* ..e"; strings.Join(got, " ") != want {
		t.Errorf("modes %q, want %q", got, want)
	}
	if v := table.Vars[0]; v.Name.Text != "x" || v.First.Value != -5 || v.Last.Value != 6 {
		t.Errorf("variable %+v", v)
	}
	if rows := table.Modes[0].Rows; len(rows) != 2 || rows[0].Stays || rows[0].To.Text != "c" || !rows[1].Stays {
		t.Errorf("rows %+v", rows)
	}
}

func TestReadAnswersNothingBesideAFault(t *testing.T) {
	for _, text := range []string{strings.Repeat("\n", api.MaxText+1), "?", "mode", "mode a { when x < 1 stay; }", "mode a { when true to b; }", "mode a { mode b { } }"} {
		if table, fault := Read(text); table != nil || fault.Code == api.OK {
			t.Errorf("Read(%.20q) = %+v, %+v", text, table, fault)
		}
	}
}
