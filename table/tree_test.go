package table

import (
	"slices"
	"strings"
	"testing"

	"helm/api"
)

func read(t *testing.T, text string) *Table {
	t.Helper()
	table, fault := Read(text)
	if fault.Code != api.OK {
		t.Fatalf("Read(%q): %+v", text, fault)
	}
	return table
}

func names(modes []*Mode) string {
	var list []string
	for _, m := range modes {
		list = append(list, m.Name.Text)
	}
	return strings.Join(list, " ")
}

func TestTreeOfModes(t *testing.T) {
	table := read(t, "mode a { mode b { mode c { } default mode d { } } default mode e { default mode f { default mode g { } } } }")
	if got := names(table.Leaves()); got != "c d g" {
		t.Errorf("leaves %s", got)
	}
	for _, c := range []struct{ name, enters, path string }{
		{"a", "g", "a"}, {"b", "d", "a b"}, {"c", "c", "a b c"}, {"d", "d", "a b d"}, {"e", "g", "a e"}, {"g", "g", "a e f g"},
	} {
		m := table.Find(c.name)
		if m.Name.Text != c.name || m.Enter().Name.Text != c.enters || names(m.Path()) != c.path {
			t.Errorf("Find(%s) = %s, enters %s, path %s", c.name, m.Name.Text, m.Enter().Name.Text, names(m.Path()))
		}
	}
}

func TestPathsAreApart(t *testing.T) {
	table := read(t, "mode a { default mode b { default mode c { default mode d { } mode e { } } } }")
	d, e := table.Find("d").Path(), table.Find("e").Path()
	if names(d) != "a b c d" || names(e) != "a b c e" {
		t.Errorf("paths %s and %s", names(d), names(e))
	}
}

func TestQuestions(t *testing.T) {
	for _, c := range []struct {
		atom string
		want Question
		cuts []int
		at   string // of the numbers from -2 to 2 those of which it is true
	}{
		{"x < 1", Question{Which: 2, Number: 1}, []int{1}, "-2 -1 0"},
		{"x <= 1", Question{Which: 2, Number: 2}, []int{2}, "-2 -1 0 1"},
		{"x == 1", Question{Which: 2, Number: 1, Same: true}, []int{1, 2}, "1"},
		{"x != -1", Question{Which: 2, Number: -1, Same: true, Turned: true}, []int{-1, 0}, "-2 0 1 2"},
		{"x >= 1", Question{Which: 2, Number: 1, Turned: true}, []int{1}, "1 2"},
		{"x > 1", Question{Which: 2, Number: 2, Turned: true}, []int{2}, "2"},
		{"was x < 0", Question{Which: 0, Number: 0}, []int{0}, "-2 -1"},
		{"y < 0", Question{Which: 3, Number: 0}, []int{0}, "-2 -1"},
		{"was y < 0", Question{Which: 1, Number: 0}, []int{0}, "-2 -1"},
	} {
		table := read(t, "var x -2 .. 2; var y -2 .. 2; mode a { when "+c.atom+" stay; }")
		q := table.Question(table.Modes[0].Rows[0].Guard.(Atom))
		if q != c.want || !slices.Equal(q.Cuts(), c.cuts) {
			t.Errorf("%s: %+v, cut at %v", c.atom, q, q.Cuts())
		}
		var at []string
		for i, name := range strings.Fields("-2 -1 0 1 2") {
			numbers := []int{99, 99, 99, 99}
			numbers[c.want.Which] = i - 2
			if q.Answer(numbers) {
				at = append(at, name)
			}
		}
		if got := strings.Join(at, " "); got != c.at {
			t.Errorf("%s is true of %s", c.atom, got)
		}
	}
}
