// Package table reads the text of a table: its grammar, and the faults that are told by a line.
package table

import (
	"helm/api"
	"helm/token"
)

// Table is a table as its text has it. Names and numbers stay tokens, since a fault is told in their line.
type Table struct {
	Tokens []token.Token
	Vars   []Var
	Modes  []*Mode // in the order of their names in the text: the outermost one first
}

// Var is a variable and the numbers that it goes from and to.
type Var struct {
	Name, First, Last token.Token
}

// Mode is a mode with its rows and the modes that stand in it.
type Mode struct {
	Name    token.Token
	Default bool
	Depth   int   // how many modes it stands in
	Around  *Mode // the innermost of them, nil of the outermost mode
	Rows    []Row
	Within  []*Mode
}

// Row says where one goes, or that one stays, if its guard is true.
type Row struct {
	When  token.Token
	Guard Guard
	Stays bool
	To    token.Token // only of a row that does not stay
}

// Guard is one of Or, And, Not, Group, True and Atom.
type Guard interface{ isGuard() }

// Or is true if one side at least is.
type Or struct{ Left, Right Guard }

// And is true if both sides are.
type And struct{ Left, Right Guard }

// Not is true if what it holds is not.
type Not struct{ Of Guard }

// Group is a guard in parentheses.
type Group struct {
	Open token.Token
	Of   Guard
}

// True is always true.
type True struct{}

// Atom holds a variable against a number.
type Atom struct {
	Was    bool
	Name   token.Token
	Op     token.Token
	Number token.Token
}

func (Or) isGuard()    {}
func (And) isGuard()   {}
func (Not) isGuard()   {}
func (Group) isGuard() {}
func (True) isGuard()  {}
func (Atom) isGuard()  {}

// Read makes a table of its text, or tells the fault that comes first, overlaps and gaps aside.
func Read(text string) (*Table, api.Fault) {
	if len(text) > api.MaxText {
		return nil, api.Fault{Code: api.ErrLimit}
	}
	tokens, fault := token.Scan(text)
	if fault.Code != api.OK {
		return nil, fault
	}
	t, fault := parse(tokens)
	if fault.Code != api.OK {
		return nil, fault
	}
	if fault = check(t); fault.Code != api.OK {
		return nil, fault
	}
	return t, api.Fault{}
}
