package token

import "strings"

// Join lays out the tokens of a table, the End among them, as Print answers them.
func Join(tokens []Token) string {
	var b strings.Builder
	for i, t := range tokens {
		if i > 0 {
			b.WriteString(gap(tokens[i-1], t))
		}
		b.WriteString(t.Text)
	}
	return b.String()
}

// gap is what stands between two tokens. A LF wins over all else: it is asked for behind its token whatever follows, the End too.
func gap(left, right Token) string {
	switch {
	case left.Is(";"), left.Is("{"), left.Is("}"):
		return "\n"
	case right.Kind == End, left.Is(".."), left.Is("("), right.Is(".."), right.Is(")"), right.Is(";"):
		return ""
	}
	return " "
}
