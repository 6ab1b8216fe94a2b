package helm

import (
	"math/rand/v2"
	"slices"
	"strconv"
	"strings"
	"testing"

	"helm/api"
)

// caseMaker makes tables that are right, or have few cases open: the rows of a leaf are made by splitting what is always true.
type caseMaker struct {
	*rand.Rand
	low, high []int
	atoms     []string
	names     int
	rows      int
	flaws     int // how many rows are to be dropped, doubled or changed
}

func (m *caseMaker) chance(n int) bool { return m.IntN(n) == 0 }

func (m *caseMaker) pick(list []string) string { return list[m.IntN(len(list))] }

func (m *caseMaker) vars() string {
	text := ""
	m.low, m.high = nil, nil
	count := (m.IntN(10) + 2) / 3
	for i := range count {
		low := m.IntN(5) - 3
		high := low + m.IntN([]int{0, 7, 4, 2}[count])
		if count == 1 && m.chance(4) {
			low, high = -1000, 1000
		}
		m.low, m.high = append(m.low, low), append(m.high, high)
		text += "var v" + strconv.Itoa(i) + " " + strconv.Itoa(low) + ".." + strconv.Itoa(high) + ";"
	}
	return text
}

func (m *caseMaker) makeAtoms() {
	m.atoms = []string{"true"}
	for range m.IntN(9) {
		if len(m.low) == 0 {
			return
		}
		i := m.IntN(len(m.low))
		number := m.low[i] - 1 + m.IntN(m.high[i]-m.low[i]+3)
		number = max(-1000, min(1000, number))
		was := []string{"", "was "}[m.IntN(2)]
		m.atoms = append(m.atoms, was+"v"+strconv.Itoa(i)+m.pick([]string{"<", "<=", "==", "!=", ">=", ">"})+strconv.Itoa(number))
	}
}

// split cuts what is always true into guards of which just one is true.
func (m *caseMaker) split(count int) []string {
	parts := []string{"true"}
	for len(parts) < count {
		i := m.IntN(len(parts))
		atom := m.pick(m.atoms)
		parts = append(parts, parts[i]+" and not "+atom)
		parts[i] = m.both(parts[i], atom)
		if len(parts) > 2 && m.chance(3) {
			last := len(parts) - 1
			parts[0] = "(" + parts[0] + ") or " + parts[last]
			parts = parts[:last]
			if strings.Count(parts[0], "(") > 3 {
				return parts
			}
			parts[0] = "not not (" + parts[0] + ")"
		}
	}
	return parts
}

func (m *caseMaker) both(left, right string) string {
	if m.chance(3) && !strings.Contains(left, "(") {
		return "not (not (" + left + ") or not " + right + ")"
	}
	return left + " and " + right
}

// spoil drops a row, doubles it, or makes it true more or less often.
func (m *caseMaker) spoil(guards []string) []string {
	if m.flaws == 0 || len(guards) == 0 || !m.chance(2) {
		return guards
	}
	m.flaws--
	i := m.IntN(len(guards))
	switch m.IntN(4) {
	case 0:
		return slices.Delete(guards, i, i+1)
	case 1:
		return append(guards, guards[i]+" and "+m.pick(m.atoms))
	case 2:
		guards[i] += " or " + m.pick(m.atoms)
	case 3:
		guards[i] += " and not " + m.pick(m.atoms)
	}
	return guards
}

func (m *caseMaker) mode(b *strings.Builder, depth int) {
	name := "m" + strconv.Itoa(m.names)
	m.names++
	b.WriteString("mode " + name + "{")
	inner := 0
	if depth < 4 && m.names < 8 {
		inner = m.IntN(4)
	}
	guards := m.split(1 + m.IntN(3))
	if inner > 0 && !m.chance(8) {
		guards = guards[:m.IntN(len(guards))]
	}
	for _, guard := range m.spoil(guards) {
		b.WriteString("when " + guard)
		if m.chance(2) {
			b.WriteString(" stay;")
		} else {
			b.WriteString(" to m" + strconv.Itoa(m.IntN(m.names)) + ";")
		}
	}
	first := m.IntN(max(1, inner))
	for i := range inner {
		if i == first {
			b.WriteString("default ")
		}
		m.mode(b, depth+1)
	}
	b.WriteString("}")
}

func (m *caseMaker) table() string {
	var b strings.Builder
	b.WriteString(m.vars())
	m.makeAtoms()
	m.mode(&b, 0)
	return b.String()
}

func TestCompileAgainstTheJudge(t *testing.T) {
	seen := map[api.Errno]int{}
	for seed := range uint64(6000) {
		m := &caseMaker{Rand: rand.New(rand.NewPCG(seed, 5)), flaws: int(seed % 4)}
		text := m.table()
		if _, f := Print(text); f.Code != api.OK {
			if f.Code != api.ErrLimit {
				t.Fatalf("made %q: %+v", text, f)
			}
			seen[f.Code]++
			continue
		}
		seen[wantCompiled(t, text)]++
	}
	for _, code := range []api.Errno{api.OK, api.ErrOverlap, api.ErrGap} {
		if seen[code] < 400 {
			t.Errorf("only %d texts with %d", seen[code], code)
		}
	}
	t.Logf("texts by answer: %v", seen)
}

// TestCompileOfNearTables: what the other maker makes has mostly faults of other kinds, which Compile tells as Print does.
func TestCompileOfNearTables(t *testing.T) {
	seen := map[api.Errno]int{}
	for seed := range uint64(3000) {
		m := &maker{Rand: rand.New(rand.NewPCG(seed, 9)), wild: 60}
		m.table()
		for range max(0, int(seed%6)-3) {
			m.spoil()
		}
		text := m.text()
		_, want := Print(text)
		if want.Code == api.OK {
			got, f := Compile(text)
			j := judgeOf(text)
			if wantSameOfPrinted(t, text, got, f); f.Code != api.OK {
				wantCase(t, j, text, got, f)
			} else {
				wantImage(t, text, j, got)
			}
			seen[f.Code]++
			continue
		}
		if got, f := Compile(text); got != "" || !isFault(f, want.Code, want.Line) {
			t.Fatalf("Compile(%q) = %x, %+v, want %+v", text, got, f, want)
		}
		seen[want.Code]++
	}
	t.Logf("texts by answer: %v", seen)
}
