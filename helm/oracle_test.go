package helm

import (
	"math/rand/v2"
	"regexp"
	"slices"
	"strconv"
	"strings"
	"testing"

	"helm/api"
)

// The oracle reads a table by other means than the program: a regular expression for the tokens, a list of states for the grammar, and the row of tokens, without a tree, for the rest.

type piece struct {
	text, class string
	line        int
}

var (
	blankForm = regexp.MustCompile(`^(?:[ \t\n]|#[^\n]*)+`)
	pieceForm = regexp.MustCompile(`^(?:[a-z][a-z0-9]*|-?[0-9]+|\.\.|[<>=!]=|[<>{}();])`)
	wordForm  = regexp.MustCompile(`^(?:var|mode|default|when|to|stay|and|or|not|was|true)$`)
)

func classOf(text string) string {
	switch {
	case wordForm.MatchString(text):
		return text
	case text[0] >= 'a' && text[0] <= 'z':
		return "NAME"
	case strings.ContainsAny(text, "0123456789"):
		return "INT"
	case strings.ContainsAny(text, "<>="):
		return "OP"
	}
	return text
}

func oraclePieces(text string) ([]piece, int) {
	var list []piece
	for at := 0; ; {
		at += len(blankForm.FindString(text[at:]))
		line := 1 + strings.Count(text[:at], "\n")
		if at == len(text) {
			return append(list, piece{"", "END", line}), 0
		}
		found := pieceForm.FindString(text[at:])
		if found == "" || len(found) > 8 || classOf(found) == "INT" && len(strings.TrimPrefix(found, "-")) > 4 {
			return nil, line
		}
		list = append(list, piece{found, classOf(found), line})
		at += len(found)
	}
}

// oracleMoves: from a state by a token to a state. Braces and parentheses are counted beside it.
const oracleMoves = `
top: var>varname mode>name
varname: NAME>first
first: INT>dots
dots: ..>last
last: INT>varend
varend: ;>top
name: NAME>open
open: {>rows
rows: when>unit default>inner mode>name }>modes
modes: default>inner mode>name }>modes
inner: mode>name
unit: not>unit (>unit true>behind was>atom NAME>op
atom: NAME>op
op: OP>int
int: INT>behind
behind: and>unit or>unit )>behind to>target stay>rowend
target: NAME>rowend
rowend: ;>rows
over: END>end
`

func readMoves() map[string]string {
	moves := map[string]string{}
	for _, line := range strings.Split(strings.TrimSpace(oracleMoves), "\n") {
		state, list, _ := strings.Cut(line, ": ")
		for _, move := range strings.Fields(list) {
			cut := strings.LastIndex(move, ">")
			moves[state+" "+move[:cut]] = move[cut+1:]
		}
	}
	return moves
}

var moves = readMoves()

func oracleSyntax(pieces []piece) int {
	state, braces, parens := "top", 0, 0
	for _, p := range pieces {
		to, ok := moves[state+" "+p.class]
		if leavesGuard := p.class == "to" || p.class == "stay"; !ok || p.class == ")" && parens == 0 || leavesGuard && parens > 0 {
			return p.line
		}
		state = to
		switch p.class {
		case "{":
			braces++
		case "}":
			braces--
		case "(":
			parens++
		case ")":
			parens--
		}
		if p.class == "}" && braces == 0 {
			state = "over"
		}
	}
	return 0
}

// oracleSense goes along the tokens once for what is told first in the text.
func oracleSense(pieces []piece) (api.Errno, int) {
	vars, modes, atoms := []string{}, []string{}, []string{}
	braces, parens, rows := 0, 0, 0
	for i, p := range pieces {
		number, _ := strconv.Atoi(p.text)
		ahead := func(n int) string {
			if i < n {
				return ""
			}
			return pieces[i-n].class
		}
		limit, name, span := false, false, false
		switch {
		case p.class == "{":
			braces++
		case p.class == "}":
			braces--
		case p.class == "(":
			limit = parens >= 6
			parens++
		case p.class == ")":
			parens--
		case p.class == "when":
			rows++
			limit = rows > 24
		case p.class == "NAME" && ahead(1) == "var":
			limit, name = len(vars) >= 3, slices.Contains(vars, p.text)
			vars = append(vars, p.text)
		case p.class == "NAME" && ahead(1) == "mode":
			limit, name = len(modes) >= 12 || braces >= 6, slices.Contains(modes, p.text)
			modes = append(modes, p.text)
		case p.class == "NAME" && ahead(1) != "to":
			value, _ := strconv.Atoi(pieces[i+2].text)
			atom := strings.Join([]string{strconv.FormatBool(ahead(1) == "was"), p.text, pieces[i+1].text, strconv.Itoa(value)}, " ")
			if !slices.Contains(atoms, atom) {
				atoms = append(atoms, atom)
			}
			limit, name = len(atoms) > 8, !slices.Contains(vars, p.text)
		case p.class == "INT":
			span = number < -1000 || number > 1000
			if ahead(1) == ".." {
				first, _ := strconv.Atoi(pieces[i-2].text)
				span = span || number < first
			}
		}
		for j, bad := range []bool{limit, name, span} {
			if bad {
				return []api.Errno{api.ErrLimit, api.ErrName, api.ErrRange}[j], p.line
			}
		}
	}
	return oracleTargets(pieces, modes)
}

func oracleTargets(pieces []piece, modes []string) (api.Errno, int) {
	for i, p := range pieces {
		if p.class == "to" && !slices.Contains(modes, pieces[i+1].text) {
			return api.ErrName, pieces[i+1].line
		}
	}
	for i, p := range pieces {
		if p.class != "mode" {
			continue
		}
		inner, defaults, depth := 0, 0, 1
		for j := i + 3; depth > 0; j++ {
			switch pieces[j].class {
			case "{":
				depth++
			case "}":
				depth--
			case "mode":
				if depth == 1 {
					inner++
				}
			case "default":
				if depth == 1 {
					defaults++
				}
			}
		}
		if inner > 0 && defaults != 1 {
			return api.ErrTree, pieces[i+1].line
		}
	}
	return api.OK, 0
}

func oraclePrint(pieces []piece) string {
	text := ""
	for _, p := range pieces {
		if p.class == "INT" {
			n, _ := strconv.Atoi(p.text)
			p.text = strconv.Itoa(n)
		}
		text += p.text + " "
	}
	return strings.TrimRight(strings.NewReplacer(" ; ", ";\n", " .. ", "..", "( ", "(", " )", ")", "{ ", "{\n", "} ", "}\n").Replace(text), " ")
}

func oracle(text string) (string, api.Errno, int) {
	if len(text) > 3000 {
		return "", api.ErrLimit, 0
	}
	pieces, line := oraclePieces(text)
	if line > 0 {
		return "", api.ErrSyntax, line
	}
	if line := oracleSyntax(pieces); line > 0 {
		return "", api.ErrSyntax, line
	}
	if code, line := oracleSense(pieces); code != api.OK {
		return "", code, line
	}
	return oraclePrint(pieces), api.OK, 0
}

// maker makes texts that are tables, or nearly so.
type maker struct {
	*rand.Rand
	tokens []string
	names  int
	wild   int // one choice in so many is a wrong one
}

func (m *maker) add(tokens ...string) { m.tokens = append(m.tokens, tokens...) }

func (m *maker) isWild() bool { return m.IntN(m.wild) == 0 }

func (m *maker) pick(list ...string) string { return list[m.IntN(len(list))] }

func (m *maker) number() string {
	if m.isWild() {
		return m.pick("1000", "-1000", "1001", "-1001", "9999", "0000", "-000")
	}
	return m.pick("0", "1", "-0", "01")
}

func (m *maker) guard(depth int) {
	switch kind := m.IntN(10); {
	case kind == 0:
		m.add("not")
		m.guard(depth)
	case kind < 3 && depth < 7:
		m.add("(")
		m.guard(depth + 1)
		m.add(")")
	case kind == 3:
		m.add("true")
	case kind < 6 && len(m.tokens) < 500:
		m.guard(depth)
		m.add(m.pick("and", "or"))
		m.guard(depth)
	default:
		if m.IntN(3) == 0 {
			m.add("was")
		}
		name := "x"
		if m.isWild() {
			name = m.pick("y", "z", "m1")
		}
		m.add(name, m.pick("<", "<="), m.number())
		if m.isWild() {
			m.tokens[len(m.tokens)-2] = m.pick("==", "!=", ">=", ">")
		}
	}
}

func (m *maker) mode(depth int) {
	name := "m" + strconv.Itoa(m.names)
	m.names++
	if m.isWild() {
		name = m.pick("m0", "m1", "x")
	}
	m.add("mode", name, "{")
	for range m.IntN(4) {
		m.add("when")
		m.guard(0)
		m.add(m.pick("stay", "to"))
		if m.tokens[len(m.tokens)-1] == "to" {
			m.add("m" + strconv.Itoa(m.IntN(m.names)))
			if m.isWild() {
				m.tokens[len(m.tokens)-1] = m.pick("m6", "x", "none")
			}
		}
		m.add(";")
	}
	if inner := m.IntN(4); depth < 7 && inner > 0 && m.names < 14 {
		first := m.IntN(inner)
		for i := range inner {
			if (i == first) != (m.IntN(12) == 0) {
				m.add("default")
			}
			m.mode(depth + 1)
		}
	}
	m.add("}")
}

func (m *maker) table() {
	m.tokens, m.names = nil, 0
	for _, name := range []string{"x", "y", "z", "w"}[:1+m.IntN(3)] {
		if m.isWild() {
			name = "x"
		}
		m.add("var", name, m.pick("-5", "0"), "..", m.number(), ";")
	}
	m.mode(0)
}

// spoil changes, drops or doubles a token.
func (m *maker) spoil() {
	i := m.IntN(len(m.tokens))
	switch m.IntN(3) {
	case 0:
		m.tokens[i] = m.pick(strings.Fields("var mode default when to stay and or not was true { } ( ) ; .. < == a 7")...)
	case 1:
		m.tokens = slices.Delete(m.tokens, i, i+1)
	case 2:
		m.tokens = slices.Insert(m.tokens, i, m.tokens[m.IntN(len(m.tokens))])
	}
}

func (m *maker) text() string {
	var b strings.Builder
	for _, token := range m.tokens {
		b.WriteString(token)
		if strings.Contains("{}();", token) && m.IntN(2) == 0 {
			continue
		}
		b.WriteString(m.pick(" ", " ", " ", "\n", "\t", " # } $\n", "  "))
		if m.IntN(4000) == 0 {
			b.WriteString(m.pick("=", "$", "-", "abcdefghi", "12345", "."))
		}
	}
	return b.String()
}

func TestPrintAgainstTheOracle(t *testing.T) {
	seen := map[api.Errno]int{}
	for seed := range uint64(12000) {
		m := &maker{Rand: rand.New(rand.NewPCG(seed, 7)), wild: 60}
		if seed%4 == 0 {
			m.wild = 8
		}
		m.table()
		for range max(0, int(seed%6)-3) {
			m.spoil()
		}
		text := m.text()
		if seed%11 == 0 {
			bytes := []byte(text)
			bytes[m.IntN(len(bytes))] = byte(m.IntN(256))
			text = string(bytes)
		}
		want, code, line := oracle(text)
		got, f := Print(text)
		if got != want || !isFault(f, code, line) {
			t.Fatalf("Print(%q) = %q, %+v, want %q, %d in line %d", text, got, f, want, code, line)
		}
		if code == api.OK && len(want) <= api.MaxText {
			wantPrinted(t, want, want)
		}
		seen[code]++
	}
	for code := api.OK; code <= api.ErrTree; code++ {
		if seen[code] < 100 {
			t.Errorf("only %d texts with %d", seen[code], code)
		}
	}
	t.Logf("texts by answer: %v", seen)
}

func TestPrintOfAnyBytes(t *testing.T) {
	random := rand.New(rand.NewPCG(1, 2))
	const near = "vamodewhn x01-.<>=!{}();#\n\t$"
	for range 20000 {
		bytes := make([]byte, random.IntN(60))
		for i := range bytes {
			bytes[i] = near[random.IntN(len(near))]
			if random.IntN(50) == 0 {
				bytes[i] = byte(random.IntN(256))
			}
		}
		want, code, line := oracle(string(bytes))
		if got, f := Print(string(bytes)); got != want || !isFault(f, code, line) {
			t.Fatalf("Print(%q) = %q, %+v, want %q, %d in line %d", bytes, got, f, want, code, line)
		}
	}
}
