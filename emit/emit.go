// Package emit makes the image of a table that is right.
package emit

import (
	"slices"

	"helm/code"
	"helm/image"
	"helm/table"
)

// writer writes the programs of a table.
type writer struct {
	table  *table.Table
	leaves []*table.Mode // by their numbers in the image
}

// Image is the image of a table. It has room in MaxImage: a program is no longer than the table's text, and with rows around them there are fewer than MaxModes leaves.
func Image(t *table.Table) string {
	w := writer{table: t, leaves: t.Leaves()}
	im := image.Image{First: w.numberOf(t.Modes[0])}
	for _, v := range t.Vars {
		im.Vars = append(im.Vars, image.Var{Least: v.First.Value, Greatest: v.Last.Value})
	}
	for _, leaf := range w.leaves {
		im.Leaves = append(im.Leaves, image.Leaf{Name: leaf.Name.Text, Program: w.program(leaf)})
	}
	return image.Encode(im)
}

// numberOf is the number of the leaf that is entered by a mode.
func (w *writer) numberOf(m *table.Mode) int {
	return slices.Index(w.leaves, m.Enter())
}

// program asks row by row, the outermost mode's first. The HALT at its end is never run, since a row decides; but what the last row skips needs something behind it.
func (w *writer) program(leaf *table.Mode) []byte {
	var program []byte
	for _, m := range leaf.Path() {
		for _, row := range m.Rows {
			program = w.appendRow(program, row)
		}
	}
	return append(program, code.Halt)
}

func (w *writer) appendRow(to []byte, row table.Row) []byte {
	end := []byte{code.Halt}
	if !row.Stays {
		end = []byte{code.Goes, byte(w.numberOf(w.table.Find(row.To.Text)))}
	}
	to = w.appendGuard(to, row.Guard)
	to = code.AppendTwo(append(to, code.Skip), len(end))
	return append(to, end...)
}

// appendGuard writes a guard so that its truth is put on the stack. The left side goes first: chains lean to the left, so only parentheses make the stack grow, and there are MaxDepth of them at most.
func (w *writer) appendGuard(to []byte, g table.Guard) []byte {
	switch g := g.(type) {
	case table.Or:
		return append(w.appendGuard(w.appendGuard(to, g.Left), g.Right), code.Some)
	case table.And:
		return append(w.appendGuard(w.appendGuard(to, g.Left), g.Right), code.Both)
	case table.Not:
		return append(w.appendGuard(to, g.Of), code.Turn)
	case table.Group:
		return w.appendGuard(to, g.Of)
	case table.Atom:
		return appendQuestion(to, w.table.Question(g))
	}
	return append(to, code.Yes)
}

func appendQuestion(to []byte, q table.Question) []byte {
	asks := code.Less
	if q.Same {
		asks = code.Same
	}
	to = code.AppendTwo(append(to, asks, byte(q.Which)), q.Number)
	if q.Turned {
		to = append(to, code.Turn)
	}
	return to
}
