// Package token cuts the text of a table into tokens and lays tokens out as a printed table.
package token

// Kind tells what sort of token one is.
type Kind int

const (
	End  Kind = iota // what stands behind the last token of a text
	Name             // of a variable or a mode
	Int              // a number
	Mark             // a word or a sign of the grammar; its text tells which
)

// Token is one piece of a table's text.
type Token struct {
	Kind  Kind
	Text  string // as it is printed: an Int without noughts ahead, the End empty
	Value int    // the number of an Int
	Line  int    // counted from 1 on
}

// Is tells whether a token is the given word or sign.
func (t Token) Is(mark string) bool { return t.Kind == Mark && t.Text == mark }
