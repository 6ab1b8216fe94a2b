package token

import (
	"strconv"
	"strings"

	"helm/api"
)

// maxDigits is how many digits an INT has at most, whatever its number.
const maxDigits = 4

// signs has the longer ones first, since a token is as long as can be.
var signs = [...]string{"..", "<=", "==", "!=", ">=", "{", "}", "(", ")", ";", "<", ">"}

type scanner struct {
	rest string
	line int
}

// Scan cuts a text into its tokens. The last one is the End, in the line behind the last LF.
func Scan(text string) ([]Token, api.Fault) {
	s := scanner{rest: text, line: 1}
	var tokens []Token
	for {
		s.skipBlanks()
		t, ok := s.take()
		if !ok {
			return nil, api.Fault{Code: api.ErrSyntax, Line: s.line}
		}
		tokens = append(tokens, t)
		if t.Kind == End {
			return tokens, api.Fault{}
		}
	}
}

func (s *scanner) skipBlanks() {
	for s.rest != "" {
		switch s.rest[0] {
		case ' ', '\t':
			s.cut(1)
		case '\n':
			s.cut(1)
			s.line++
		case '#':
			s.skipRemark()
		default:
			return
		}
	}
}

// skipRemark leaves the LF behind the remark in place, so that it is counted like any other.
func (s *scanner) skipRemark() {
	size := strings.IndexByte(s.rest, '\n')
	if size < 0 {
		size = len(s.rest)
	}
	s.cut(size)
}

// cut takes so many bytes off what is left of the text.
func (s *scanner) cut(size int) string {
	piece := s.rest[:size]
	s.rest = s.rest[size:]
	return piece
}

func (s *scanner) take() (Token, bool) {
	switch {
	case s.rest == "":
		return Token{Kind: End, Line: s.line}, true
	case isLetter(s.rest[0]):
		return s.takeWord()
	case isDigit(s.rest[0]) || s.rest[0] == '-':
		return s.takeInt()
	}
	return s.takeSign()
}

func (s *scanner) takeWord() (Token, bool) {
	size := span(s.rest, isNameByte)
	if size > api.MaxName {
		return Token{}, false
	}
	t := Token{Kind: Name, Text: s.cut(size), Line: s.line}
	if isWord(t.Text) {
		t.Kind = Mark
	}
	return t, true
}

func (s *scanner) takeInt() (Token, bool) {
	sign := 0
	if s.rest[0] == '-' {
		sign = 1
	}
	digits := span(s.rest[sign:], isDigit)
	if digits == 0 || digits > maxDigits {
		return Token{}, false
	}
	value, err := strconv.Atoi(s.cut(sign + digits))
	return Token{Kind: Int, Text: strconv.Itoa(value), Value: value, Line: s.line}, err == nil
}

func (s *scanner) takeSign() (Token, bool) {
	for _, sign := range signs {
		if strings.HasPrefix(s.rest, sign) {
			return Token{Kind: Mark, Text: s.cut(len(sign)), Line: s.line}, true
		}
	}
	return Token{}, false
}

// span counts the bytes at the head of a text that are of one sort.
func span(text string, isOfSort func(byte) bool) int {
	size := 0
	for size < len(text) && isOfSort(text[size]) {
		size++
	}
	return size
}

func isLetter(c byte) bool { return 'a' <= c && c <= 'z' }

func isDigit(c byte) bool { return '0' <= c && c <= '9' }

func isNameByte(c byte) bool { return isLetter(c) || isDigit(c) }

func isWord(text string) bool {
	switch text {
	case "var", "mode", "default", "when", "to", "stay", "and", "or", "not", "was", "true":
		return true
	}
	return false
}
