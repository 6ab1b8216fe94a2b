package helm

import (
	"slices"
	"strconv"
	"strings"
	"testing"

	"helm/api"
)

// The second judge of cases: it makes rows of a guard's pieces that are gone through with a stack, and asks all samples there are, or all that stand near a number of the text.

type judgedMode struct {
	name      string
	around    int // -1 of the outermost one
	isDefault bool
	isLeaf    bool
	rows      []judgedRow
}

type judgedRow struct {
	steps []judgedStep
	to    string // empty: stay
}

// judgedStep is an atom or, with an op of and, or, not, true, what is done with the truths so far.
type judgedStep struct {
	op     string
	was    bool
	name   int
	number int
}

type judged struct {
	vars    []string
	low     []int
	high    []int
	modes   []judgedMode
	numbers []int // all that stand in the text
}

func judgeOf(text string) *judged {
	pieces, _ := oraclePieces(text)
	j := &judged{}
	var open []int
	for i := 0; i < len(pieces); i++ {
		switch pieces[i].class {
		case "var":
			j.vars = append(j.vars, pieces[i+1].text)
			j.low = append(j.low, intOf(pieces[i+2].text))
			j.high = append(j.high, intOf(pieces[i+4].text))
		case "mode":
			m := judgedMode{name: pieces[i+1].text, around: -1, isDefault: i > 0 && pieces[i-1].class == "default", isLeaf: true}
			if len(open) > 0 {
				m.around = open[len(open)-1]
				j.modes[m.around].isLeaf = false
			}
			open = append(open, len(j.modes))
			j.modes = append(j.modes, m)
		case "}":
			open = open[:len(open)-1]
		case "when":
			end := i + slices.IndexFunc(pieces[i:], func(p piece) bool { return p.class == "to" || p.class == "stay" })
			row := judgedRow{steps: j.steps(pieces[i+1 : end])}
			if pieces[end].class == "to" {
				row.to = pieces[end+1].text
			}
			m := &j.modes[open[len(open)-1]]
			m.rows = append(m.rows, row)
		case "INT":
			j.numbers = append(j.numbers, intOf(pieces[i].text))
		}
	}
	return j
}

func intOf(text string) int {
	n, err := strconv.Atoi(text)
	if err != nil {
		panic(err)
	}
	return n
}

// steps sets each word behind what it joins.
func (j *judged) steps(pieces []piece) []judgedStep {
	var out []judgedStep
	var held []string
	rank := map[string]int{"or": 1, "and": 2, "not": 3}
	drop := func(from int) {
		for len(held) > 0 && held[len(held)-1] != "(" && rank[held[len(held)-1]] >= from {
			out = append(out, judgedStep{op: held[len(held)-1]})
			held = held[:len(held)-1]
		}
	}
	for i := 0; i < len(pieces); i++ {
		switch p := pieces[i]; p.class {
		case "(", "not":
			held = append(held, p.class)
		case ")":
			drop(0)
			held = held[:len(held)-1]
		case "and", "or":
			drop(rank[p.class])
			held = append(held, p.class)
		case "true":
			out = append(out, judgedStep{op: "true"})
		case "NAME":
			step := judgedStep{op: pieces[i+1].text, name: slices.Index(j.vars, p.text), number: intOf(pieces[i+2].text)}
			step.was = i > 0 && pieces[i-1].class == "was"
			out = append(out, step)
		}
	}
	drop(0)
	return out
}

func (row judgedRow) isTrue(before, now []int) bool {
	var truths []bool
	take := func() bool {
		last := truths[len(truths)-1]
		truths = truths[:len(truths)-1]
		return last
	}
	for _, step := range row.steps {
		put := true
		switch step.op {
		case "true":
		case "not":
			put = !take()
		case "and":
			right, left := take(), take()
			put = left && right
		case "or":
			right, left := take(), take()
			put = left || right
		default:
			put = step.asks(before, now)
		}
		truths = append(truths, put)
	}
	return truths[0]
}

func (step judgedStep) asks(before, now []int) bool {
	sample := now
	if step.was {
		sample = before
	}
	n := sample[step.name]
	switch step.op {
	case "<":
		return n < step.number
	case "<=":
		return n <= step.number
	case "==":
		return n == step.number
	case "!=":
		return n != step.number
	case ">=":
		return n >= step.number
	}
	return n > step.number
}

// enters tells the leaf that is entered by a mode.
func (j *judged) enters(name string) string {
	at := slices.IndexFunc(j.modes, func(m judgedMode) bool { return m.name == name })
	for !j.modes[at].isLeaf {
		around := at
		at = slices.IndexFunc(j.modes, func(m judgedMode) bool { return m.around == around && m.isDefault })
	}
	return j.modes[at].name
}

// judge tells the fault of a case, or its next leaf.
func (j *judged) judge(leaf string, before, now []int) (api.Errno, string) {
	at := slices.IndexFunc(j.modes, func(m judgedMode) bool { return m.name == leaf })
	code, next := api.ErrGap, ""
	for ; at >= 0; at = j.modes[at].around {
		var true []judgedRow
		for _, row := range j.modes[at].rows {
			if row.isTrue(before, now) {
				true = append(true, row)
			}
		}
		switch {
		case len(true) > 1:
			code, next = api.ErrOverlap, ""
		case len(true) == 1 && true[0].to == "":
			code, next = api.OK, leaf
		case len(true) == 1:
			code, next = api.OK, j.enters(true[0].to)
		}
	}
	return code, next
}

func (j *judged) leaves() []string {
	var names []string
	for _, m := range j.modes {
		if m.isLeaf {
			names = append(names, m.name)
		}
	}
	return names
}

func (j *judged) isSample(sample []int) bool {
	ok := sample != nil && len(sample) == len(j.vars)
	for i, n := range sample {
		ok = ok && j.low[i] <= n && n <= j.high[i]
	}
	return ok
}

// samples are all there are, of variables that have few numbers.
func (j *judged) samples() [][]int {
	all := [][]int{{}}
	for i := range j.vars {
		var longer [][]int
		for n := j.low[i]; n <= j.high[i]; n++ {
			if j.high[i]-j.low[i] > 8 && !j.isNear(n, i) {
				continue
			}
			for _, list := range all {
				longer = append(longer, append(slices.Clone(list), n))
			}
		}
		all = longer
	}
	return all
}

func (j *judged) isNear(n, i int) bool {
	return n == j.low[i] || n == j.high[i] || slices.ContainsFunc(j.numbers, func(m int) bool { return m-1 <= n && n <= m+1 })
}

// eachCase calls with all cases and what they are.
func (j *judged) eachCase(call func(leaf string, before, now []int, code api.Errno, next string)) {
	samples := j.samples()
	for _, leaf := range j.leaves() {
		for _, before := range samples {
			for _, now := range samples {
				code, next := j.judge(leaf, before, now)
				call(leaf, before, now, code, next)
			}
		}
	}
}

// wantCompiled holds what Compile answers against the judge's answers to all cases, for a text that Print takes, and tells the code.
func wantCompiled(t *testing.T, text string) api.Errno {
	t.Helper()
	j := judgeOf(text)
	want := api.OK
	nexts := []string{}
	j.eachCase(func(leaf string, before, now []int, code api.Errno, next string) {
		if code == api.ErrOverlap || want == api.OK {
			want = code
		}
		nexts = append(nexts, next)
	})
	got, f := Compile(text)
	if f.Code != want {
		t.Fatalf("Compile(%q) = %x, %+v, want fault %d", text, got, f, want)
	}
	wantSameOfPrinted(t, text, got, f)
	if want != api.OK {
		wantCase(t, j, text, got, f)
		return want
	}
	if got == "" || !isNoFault(f) || len(got) > api.MaxImage {
		t.Fatalf("Compile(%q) = %x, %+v, want an image", text, got, f)
	}
	im := wantImage(t, text, j, got)
	j.eachCase(func(leaf string, before, now []int, code api.Errno, next string) {
		if goes := im.next(leaf, before, now); goes != nexts[0] {
			t.Fatalf("%q: the image goes from %s with %v and %v to %s, want %s", text, leaf, before, now, goes, nexts[0])
		}
		nexts = nexts[1:]
	})
	return api.OK
}

// wantCase asks whether what is told is a case of the fault.
func wantCase(t *testing.T, j *judged, text, got string, f api.Fault) {
	t.Helper()
	if got != "" || f.Line != 0 || !slices.Contains(j.leaves(), f.Mode) || !j.isSample(f.Before) || !j.isSample(f.Now) {
		t.Fatalf("Compile(%q) = %x, %+v, which is no case", text, got, f)
	}
	if code, _ := j.judge(f.Mode, f.Before, f.Now); code != f.Code {
		t.Fatalf("Compile(%q) = %+v, which is a case of %d", text, f, code)
	}
}

func wantSameOfPrinted(t *testing.T, text, got string, f api.Fault) {
	t.Helper()
	printed, _ := Print(text)
	if len(printed) > api.MaxText {
		return
	}
	other, g := Compile(printed)
	if other != got || g.Code != f.Code || g.Line != f.Line || g.Mode != f.Mode || !slices.Equal(g.Before, f.Before) || !slices.Equal(g.Now, f.Now) {
		t.Fatalf("Compile(%q) = %x, %+v, but of what is printed %x, %+v", text, got, f, other, g)
	}
}

func TestTheJudge(t *testing.T) {
	j := judgeOf("var x 0 .. 1; var y -1 .. 0; mode a { when not x < 1 and (true or y > 0) or was y == 0 to c; default mode b { } mode c { when x == 0 stay; mode d { } default mode e { when true stay; } } }")
	if got := strings.Join(j.leaves(), " "); got != "b d e" {
		t.Errorf("leaves %s", got)
	}
	for _, c := range []struct {
		leaf        string
		before, now []int
		code        api.Errno
		next        string
	}{
		{"b", []int{0, -1}, []int{1, 0}, api.OK, "e"},
		{"b", []int{0, 0}, []int{0, 0}, api.OK, "e"},
		{"b", []int{0, -1}, []int{0, 0}, api.ErrGap, ""},
		{"d", []int{0, -1}, []int{0, 0}, api.OK, "d"},
		{"e", []int{0, -1}, []int{0, 0}, api.OK, "e"},
	} {
		if code, next := j.judge(c.leaf, c.before, c.now); code != c.code || next != c.next {
			t.Errorf("%s, %v, %v: %d, %q", c.leaf, c.before, c.now, code, next)
		}
	}
	if n := len(j.samples()); n != 4 {
		t.Errorf("%d samples", n)
	}
	if code, _ := judgeOf("mode a { when true stay; when true stay; }").judge("a", nil, nil); code != api.ErrOverlap {
		t.Errorf("an overlap is %d", code)
	}
}
