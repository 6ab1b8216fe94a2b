package table

import (
	"slices"

	"helm/api"
	"helm/token"
)

// checker goes through a whole table and keeps the first fault that is told to it: so what is to come first is asked first.
type checker struct {
	table *Table
	rows  int
	atoms []sameAtom
	fault api.Fault
}

// sameAtom is what two atoms have in common that are the same.
type sameAtom struct {
	was      bool
	name, op string
	number   int
}

func check(t *Table) api.Fault {
	c := checker{table: t}
	c.checkVars()
	for i, m := range t.Modes {
		c.checkMode(i, m)
	}
	c.checkTargets()
	c.checkTree()
	return c.fault
}

// refuse tells a fault in the line of a token, if it is there and none was told before.
func (c *checker) refuse(bad bool, code api.Errno, at token.Token) {
	if bad && c.fault.Code == api.OK {
		c.fault = api.Fault{Code: code, Line: at.Line}
	}
}

func (c *checker) checkVars() {
	for i, v := range c.table.Vars {
		c.refuse(i >= api.MaxVars, api.ErrLimit, v.Name)
		c.refuse(hasVar(c.table.Vars[:i], v.Name.Text), api.ErrName, v.Name)
		c.checkBound(v.First)
		c.checkBound(v.Last)
		c.refuse(v.Last.Value < v.First.Value, api.ErrRange, v.Last)
	}
}

// checkMode asks of a mode's name and rows only: the modes in it come behind them in the text, and behind it in the list.
func (c *checker) checkMode(i int, m *Mode) {
	c.refuse(i >= api.MaxModes || m.Depth >= api.MaxDepth, api.ErrLimit, m.Name)
	c.refuse(hasMode(c.table.Modes[:i], m.Name.Text), api.ErrName, m.Name)
	for _, row := range m.Rows {
		c.rows++
		c.refuse(c.rows > api.MaxRows, api.ErrLimit, row.When)
		c.checkGuard(row.Guard, 0)
	}
}

func (c *checker) checkGuard(g Guard, depth int) {
	switch g := g.(type) {
	case Or:
		c.checkGuard(g.Left, depth)
		c.checkGuard(g.Right, depth)
	case And:
		c.checkGuard(g.Left, depth)
		c.checkGuard(g.Right, depth)
	case Not:
		c.checkGuard(g.Of, depth)
	case Group:
		c.refuse(depth >= api.MaxDepth, api.ErrLimit, g.Open)
		c.checkGuard(g.Of, depth+1)
	case Atom:
		c.checkAtom(g)
	}
}

func (c *checker) checkAtom(a Atom) {
	key := sameAtom{a.Was, a.Name.Text, a.Op.Text, a.Number.Value}
	if !slices.Contains(c.atoms, key) {
		c.atoms = append(c.atoms, key)
	}
	c.refuse(len(c.atoms) > api.MaxAtoms, api.ErrLimit, a.Name)
	c.refuse(!hasVar(c.table.Vars, a.Name.Text), api.ErrName, a.Name)
	c.checkBound(a.Number)
}

func (c *checker) checkBound(number token.Token) {
	c.refuse(number.Value > api.MaxBound || number.Value < -api.MaxBound, api.ErrRange, number)
}

func (c *checker) checkTargets() {
	for _, m := range c.table.Modes {
		for _, row := range m.Rows {
			c.refuse(!row.Stays && !hasMode(c.table.Modes, row.To.Text), api.ErrName, row.To)
		}
	}
}

func (c *checker) checkTree() {
	for _, m := range c.table.Modes {
		c.refuse(len(m.Within) > 0 && countDefaults(m.Within) != 1, api.ErrTree, m.Name)
	}
}

func countDefaults(modes []*Mode) int {
	count := 0
	for _, m := range modes {
		if m.Default {
			count++
		}
	}
	return count
}

func hasVar(vars []Var, name string) bool {
	return slices.ContainsFunc(vars, func(v Var) bool { return v.Name.Text == name })
}

func hasMode(modes []*Mode, name string) bool {
	return slices.ContainsFunc(modes, func(m *Mode) bool { return m.Name.Text == name })
}
