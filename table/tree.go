package table

import "slices"

// Leaves are the modes that have no modes in them, in the order of the text.
func (t *Table) Leaves() []*Mode {
	var leaves []*Mode
	for _, m := range t.Modes {
		if len(m.Within) == 0 {
			leaves = append(leaves, m)
		}
	}
	return leaves
}

// Find is the mode of a name that the table has.
func (t *Table) Find(name string) *Mode {
	return t.Modes[slices.IndexFunc(t.Modes, func(m *Mode) bool { return m.Name.Text == name })]
}

// Enter is the leaf at which one is who enters a mode.
func (m *Mode) Enter() *Mode {
	for len(m.Within) > 0 {
		m = m.Within[slices.IndexFunc(m.Within, func(in *Mode) bool { return in.Default })]
	}
	return m
}

// Path is the modes around a mode, from the outermost one on, and itself.
func (m *Mode) Path() []*Mode {
	if m.Around == nil {
		return []*Mode{m}
	}
	return append(m.Around.Path(), m)
}
