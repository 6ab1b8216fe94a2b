package table

import (
	"helm/api"
	"helm/token"
)

// parser goes through the tokens by the grammar. What fails never moves on, so that at a fault it is at the token that cannot stand there.
type parser struct {
	tokens []token.Token
	at     int
	table  *Table
}

func parse(tokens []token.Token) (*Table, api.Fault) {
	p := parser{tokens: tokens, table: &Table{Tokens: tokens}}
	if !p.takeTable() {
		return nil, api.Fault{Code: api.ErrSyntax, Line: p.next().Line}
	}
	return p.table, api.Fault{}
}

func (p *parser) next() token.Token { return p.tokens[p.at] }

// skip moves on if the next token is the given word or sign.
func (p *parser) skip(mark string) bool {
	if !p.next().Is(mark) {
		return false
	}
	p.at++
	return true
}

// take moves on if the next token is of the given kind, which is never the End.
func (p *parser) take(kind token.Kind, into *token.Token) bool {
	if p.next().Kind != kind {
		return false
	}
	*into = p.next()
	p.at++
	return true
}

func (p *parser) takeTable() bool {
	for p.next().Is("var") {
		if !p.takeVar() {
			return false
		}
	}
	return p.takeMode(nil, false) && p.next().Kind == token.End
}

func (p *parser) takeVar() bool {
	var v Var
	ok := p.skip("var") && p.take(token.Name, &v.Name) &&
		p.take(token.Int, &v.First) && p.skip("..") && p.take(token.Int, &v.Last) && p.skip(";")
	p.table.Vars = append(p.table.Vars, v)
	return ok
}

func (p *parser) takeMode(around *Mode, isDefault bool) bool {
	m := &Mode{Default: isDefault, Around: around}
	if around != nil {
		m.Depth = around.Depth + 1
		around.Within = append(around.Within, m)
	}
	p.table.Modes = append(p.table.Modes, m)
	return p.skip("mode") && p.take(token.Name, &m.Name) && p.skip("{") &&
		p.takeRows(m) && p.takeModes(m) && p.skip("}")
}

func (p *parser) takeRows(m *Mode) bool {
	for p.next().Is("when") {
		var row Row
		if !p.takeRow(&row) {
			return false
		}
		m.Rows = append(m.Rows, row)
	}
	return true
}

func (p *parser) takeModes(m *Mode) bool {
	for p.next().Is("default") || p.next().Is("mode") {
		isDefault := p.skip("default")
		if !p.takeMode(m, isDefault) {
			return false
		}
	}
	return true
}

func (p *parser) takeRow(row *Row) bool {
	row.When = p.next()
	return p.skip("when") && p.takeGuard(&row.Guard) && p.takeTarget(row) && p.skip(";")
}

func (p *parser) takeTarget(row *Row) bool {
	row.Stays = p.skip("stay")
	return row.Stays || p.skip("to") && p.take(token.Name, &row.To)
}

func (p *parser) takeGuard(into *Guard) bool {
	if !p.takeConj(into) {
		return false
	}
	for p.skip("or") {
		var right Guard
		if !p.takeConj(&right) {
			return false
		}
		*into = Or{*into, right}
	}
	return true
}

func (p *parser) takeConj(into *Guard) bool {
	if !p.takeUnit(into) {
		return false
	}
	for p.skip("and") {
		var right Guard
		if !p.takeUnit(&right) {
			return false
		}
		*into = And{*into, right}
	}
	return true
}

func (p *parser) takeUnit(into *Guard) bool {
	first := p.next()
	var inner Guard
	switch {
	case p.skip("not"):
		ok := p.takeUnit(&inner)
		*into = Not{inner}
		return ok
	case p.skip("("):
		ok := p.takeGuard(&inner) && p.skip(")")
		*into = Group{first, inner}
		return ok
	case p.skip("true"):
		*into = True{}
		return true
	}
	return p.takeAtom(into)
}

func (p *parser) takeAtom(into *Guard) bool {
	a := Atom{Was: p.skip("was")}
	ok := p.take(token.Name, &a.Name) && p.takeOp(&a.Op) && p.take(token.Int, &a.Number)
	*into = a
	return ok
}

func (p *parser) takeOp(into *token.Token) bool {
	switch p.next().Text {
	case "<", "<=", "==", "!=", ">=", ">":
		return p.take(token.Mark, into)
	}
	return false
}
