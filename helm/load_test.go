package helm

import (
	"math/rand/v2"
	"slices"
	"strconv"
	"strings"
	"testing"

	"helm/api"
)

// assemble makes a program of instructions by their names, with commas between them; a word that is only a number is a byte.
func assemble(text string) []byte {
	names := []string{"HALT", "GOES", "SKIP", "BOTH", "SOME", "TURN", "YES", "LESS", "SAME"}
	var program []byte
	for _, instruction := range strings.Split(text, ",") {
		words := strings.Fields(instruction)
		if len(words) == 0 {
			continue
		}
		at := slices.Index(names, words[0])
		if at < 0 {
			program = append(program, byte(intOf(words[0])))
			continue
		}
		program = append(program, byte(at))
		for i, word := range words[1:] {
			n := intOf(word)
			program = append(program, byte(n))
			if at == 2 || i == 1 {
				program = append(program, byte(n>>8))
			}
		}
	}
	return program
}

// small is an image with two variables and three leaves, of which the second one has this program.
func small(program []byte) seenImage {
	return seenImage{low: []int{-5, 0}, high: []int{5, 300}, first: 1, names: []string{"a", "b", "c"}, programs: [][]byte{assemble("HALT"), program, assemble("HALT")}}
}

func wantNone(t *testing.T, what, image string) {
	t.Helper()
	if m, ok := Load(image); m != nil || ok {
		t.Errorf("%s: Load(%.200x) = %v, %v", what, image, m, ok)
	}
}

func TestLoadTheImageOfTheDocument(t *testing.T) {
	m := start(t, bytesOf(t, "48 45 4c 4d 31 00 01 00 01 61 06 00 06 02 01 00 00 00 f1 7d 6a 07"))
	wantMode(t, m, "a")
	if name, e := m.Step(nil); name != "a" || e != api.OK {
		t.Errorf("Step(nil) = %q, %d", name, e)
	}
}

func TestLoadTakesTheLeastImage(t *testing.T) {
	m := start(t, summed("HELM1\x00\x01\x00\x00\x01\x00\x00"))
	wantMode(t, m, "")
	if name, e := m.Step([]int{}); name != "" || e != api.OK {
		t.Errorf("Step = %q, %d", name, e)
	}
}

// TestLoadTakesRightPrograms: from the second leaf, with 3, 7 and then 4, 8, to which leaf.
func TestLoadTakesRightPrograms(t *testing.T) {
	for _, c := range []struct{ program, want string }{
		{"HALT", "b"}, {"GOES 0", "a"}, {"GOES 1", "b"}, {"GOES 2", "c"},
		{"YES, HALT", "b"}, {"YES, YES, YES, GOES 2", "c"},
		{"YES, SKIP 0, GOES 2", "c"}, {"YES, TURN, SKIP 0, GOES 2", "c"},
		{"YES, SKIP 1, HALT, GOES 2", "b"}, {"YES, TURN, SKIP 1, HALT, GOES 2", "c"},
		{"YES, TURN, TURN, SKIP 2, GOES 0, GOES 2", "a"}, {"YES, TURN, SKIP 2, GOES 0, GOES 2", "c"},
		{"YES, YES, BOTH, SKIP 2, GOES 0, GOES 2", "a"}, {"YES, YES, TURN, BOTH, SKIP 2, GOES 0, GOES 2", "c"},
		{"YES, TURN, YES, BOTH, SKIP 2, GOES 0, GOES 2", "c"}, {"YES, TURN, YES, TURN, BOTH, SKIP 2, GOES 0, GOES 2", "c"},
		{"YES, YES, SOME, SKIP 2, GOES 0, GOES 2", "a"}, {"YES, YES, TURN, SOME, SKIP 2, GOES 0, GOES 2", "a"},
		{"YES, TURN, YES, SOME, SKIP 2, GOES 0, GOES 2", "a"}, {"YES, TURN, YES, TURN, SOME, SKIP 2, GOES 0, GOES 2", "c"},
		{"LESS 0 4, SKIP 2, GOES 0, GOES 2", "a"}, {"LESS 0 3, SKIP 2, GOES 0, GOES 2", "c"},
		{"LESS 1 8, SKIP 2, GOES 0, GOES 2", "a"}, {"LESS 1 7, SKIP 2, GOES 0, GOES 2", "c"},
		{"LESS 2 5, SKIP 2, GOES 0, GOES 2", "a"}, {"LESS 2 4, SKIP 2, GOES 0, GOES 2", "c"},
		{"LESS 3 9, SKIP 2, GOES 0, GOES 2", "a"}, {"LESS 3 8, SKIP 2, GOES 0, GOES 2", "c"},
		{"LESS 3 32767, SKIP 2, GOES 0, GOES 2", "a"}, {"LESS 3 -32768, SKIP 2, GOES 0, GOES 2", "c"}, {"LESS 3 256, SKIP 2, GOES 0, GOES 2", "a"}, {"LESS 3 -1, SKIP 2, GOES 0, GOES 2", "c"},
		{"SAME 0 3, SKIP 2, GOES 0, GOES 2", "a"}, {"SAME 0 4, SKIP 2, GOES 0, GOES 2", "c"}, {"SAME 0 2, SKIP 2, GOES 0, GOES 2", "c"},
		{"SAME 1 7, SKIP 2, GOES 0, GOES 2", "a"}, {"SAME 2 4, SKIP 2, GOES 0, GOES 2", "a"}, {"SAME 3 8, SKIP 2, GOES 0, GOES 2", "a"},
		{"SAME 3 264, SKIP 2, GOES 0, GOES 2", "c"}, {"SAME 3 -32760, SKIP 2, GOES 0, GOES 2", "c"},
		// what is below the truths that are taken stays
		{"YES, YES, TURN, YES, SKIP 0, SKIP 2, GOES 0, SKIP 2, GOES 2, HALT", "c"},
		// one instruction on several ways, with one count
		{"SAME 3 8, SKIP 4, YES, SKIP 0, HALT", "b"}, {"YES, LESS 3 8, SKIP 1, TURN, SKIP 2, GOES 0, GOES 2", "a"}, {"YES, LESS 3 9, SKIP 1, TURN, SKIP 2, GOES 0, GOES 2", "c"},
		{"YES, SKIP 8, LESS 0 0, SKIP 1, HALT, GOES 0", "a"},
		{"YES, TURN, SKIP 8, LESS 0 0, SKIP 1, HALT, GOES 0", "a"},
	} {
		im := small(assemble("SAME 0 3, SAME 2 3, BOTH, SKIP 1, HALT," + c.program)) // the first sample changes nothing
		if wrong := im.wrongProgram(im.programs[1]); wrong != "" {
			t.Fatalf("%s: %s", c.program, wrong)
		}
		m := start(t, im.lay())
		first, e := m.Step([]int{3, 7})
		second, f := m.Step([]int{4, 8})
		if first != "b" || e != api.OK || second != c.want || f != api.OK {
			t.Errorf("%s: %q, %d, then %q, %d, want %q", c.program, first, e, second, f, c.want)
		}
	}
}

// wrongPrograms are programs by what is wrong with them, in an image with three leaves and two variables.
func wrongPrograms() map[string][]string {
	return map[string][]string{
		"an instruction that is none": {"9", "10", "255", "HALT, 9", "YES, 9", "YES, SKIP 1, 9, HALT"},
		"does not end with an instruction": {"", "GOES", "SKIP", "YES, SKIP", "YES, SKIP, 0", "LESS", "LESS, 0", "LESS, 0, 0", "SAME", "SAME, 0, 0",
			"LESS 0 0, SKIP 1, HALT, GOES", "LESS 0 0, SKIP 1, HALT, SKIP, 0", "HALT, GOES"},
		"no such leaf":   {"GOES 3", "GOES 255", "YES, SKIP 2, GOES 2, GOES 3"},
		"no such number": {"LESS 4 0, HALT", "SAME 4 0, HALT", "LESS 255 0, HALT", "SAME 255 0, HALT"},
		"comes to what is no instruction": {"YES", "YES, TURN", "LESS 0 0", "SAME 0 0", "YES, YES, BOTH", "YES, YES, SOME", "YES, SKIP 0", "YES, SKIP 1, HALT",
			"YES, SKIP 2, HALT", "YES, SKIP 65535, HALT", "YES, SKIP -4, HALT", "YES, SKIP 3, GOES 0, HALT", "YES, SKIP 4, GOES 0, HALT",
			"YES, SKIP 1, GOES 0, HALT", "YES, SKIP 1, LESS 0 0, HALT", "YES, SKIP 2, LESS 0 0, HALT", "YES, SKIP 3, LESS 0 0, HALT",
			"YES, SKIP 2, YES, SKIP 0, HALT", "YES, SKIP 3, YES, SKIP 0, HALT", "YES, YES, SKIP 2, SKIP 0, SKIP 1, HALT, HALT"},
		"an instruction that is not come to": {"HALT, HALT", "GOES 0, HALT", "YES, SKIP 2, HALT, HALT, HALT", "YES, SKIP 0, HALT, YES, HALT", "YES, SKIP 1, HALT, HALT, TURN", "HALT, TURN, HALT"},
		"too few truths": {"SKIP 0, HALT", "BOTH, HALT", "SOME, HALT", "TURN, HALT", "YES, BOTH, HALT", "YES, SOME, HALT", "YES, SKIP 0, TURN, HALT",
			"YES, SKIP 0, SKIP 0, HALT", "YES, YES, BOTH, BOTH, HALT", "YES, SKIP 1, HALT, TURN, HALT", "YES, SKIP 1, HALT, YES, SOME, HALT"},
		"comes to one with several counts": {"YES, SKIP 1, YES, HALT", "YES, YES, SKIP 3, SKIP 0, HALT", "LESS 0 0, SKIP 4, SAME 0 0, HALT", "YES, YES, YES, SKIP 1, BOTH, HALT", "YES, SKIP 2, YES, YES, HALT"},
		"too many truths":                  {strings.Repeat("YES,", 33) + "HALT"},
	}
}

// TestLoadRefusesOtherPrograms: by what is wrong with them, as the second reader tells it.
func TestLoadRefusesOtherPrograms(t *testing.T) {
	for wrong, programs := range wrongPrograms() {
		for _, text := range programs {
			program := assemble(text)
			if got := small(nil).wrongProgram(program); got != wrong {
				t.Errorf("%s: the second reader tells %q, want %q", text, got, wrong)
			}
			wantNone(t, text, small(program).lay())
		}
	}
}

func TestLoadAsksTheProgramsOfAllLeaves(t *testing.T) {
	for i := range 3 {
		im := small(assemble("HALT"))
		im.programs[i] = assemble("TURN, HALT")
		wantNone(t, "of leaf "+strconv.Itoa(i), im.lay())
		im.programs[i] = nil
		wantNone(t, "of leaf "+strconv.Itoa(i), im.lay())
	}
}

func TestLoadCountsTruths(t *testing.T) {
	for _, put := range []string{"YES,", "LESS 0 0,", "SAME 3 0,"} {
		for _, end := range []string{"HALT", "GOES 2", strings.Repeat("BOTH,", 31) + "SKIP 1, HALT, HALT", strings.Repeat("SKIP 0,", 32) + "HALT", "TURN, SOME, YES, HALT"} {
			start(t, small(assemble(strings.Repeat(put, 32)+end)).lay())
			wantNone(t, "33 truths", small(assemble(strings.Repeat(put, 33)+end)).lay())
			wantNone(t, "33 truths, one of them taken", small(assemble(strings.Repeat(put, 32)+"TURN,"+put+"BOTH, HALT")).lay())
		}
	}
	wantNone(t, "300 truths", small(assemble(strings.Repeat("YES,", 300)+"HALT")).lay())
	wantNone(t, "33 truths taken", small(assemble(strings.Repeat("YES,", 32)+strings.Repeat("SKIP 0,", 33)+"HALT")).lay())
	wantNone(t, "33 truths on one way", small(assemble(strings.Repeat("YES,", 32)+"SKIP 2, YES, YES, HALT")).lay())
}

func TestLoadTakesLongSkips(t *testing.T) {
	for _, pairs := range []int{16383, 16384, 20000, 29900} {
		long := slices.Repeat(assemble("TURN, TURN"), pairs)
		program := slices.Concat(assemble("YES, LESS 2 0, SKIP "+strconv.Itoa(len(long)+1)+", TURN"), long, assemble("SKIP 2, GOES 0, GOES 2"))
		if len(program) > 59900 {
			t.Fatalf("%d bytes", len(program))
		}
		m := start(t, small(program).lay())
		if name, e := m.Step([]int{0, 0}); name != "a" || e != api.OK {
			t.Errorf("over %d bytes: %q, %d", len(long), name, e)
		}
		m.Reset()
		if name, e := m.Step([]int{-1, 0}); name != "c" || e != api.OK {
			t.Errorf("through %d bytes: %q, %d", len(long), name, e)
		}
	}
}

func TestLoadRefusesOtherLayouts(t *testing.T) {
	lay := func(change func(*seenImage)) string {
		im := small(assemble("HALT"))
		change(&im)
		return im.lay()
	}
	for what, image := range map[string]string{
		"nothing":          "",
		"only a sum":       summed(""),
		"only the head":    summed("HELM1"),
		"three bytes":      "\x00\x00\x00",
		"four bytes":       "\x00\x00\x00\x00",
		"no leaf":          lay(func(im *seenImage) { im.names, im.first = nil, 0 }),
		"no leaf, first 1": lay(func(im *seenImage) { im.names = nil }),
		"first 3":          lay(func(im *seenImage) { im.first = 3 }),
		"first 255":        lay(func(im *seenImage) { im.first = 255 }),
		"four variables":   lay(func(im *seenImage) { im.low, im.high = make([]int, 4), make([]int, 4) }),
		"255 variables":    lay(func(im *seenImage) { im.low, im.high = make([]int, 255), make([]int, 255) }),
		"13 leaves": lay(func(im *seenImage) {
			im.names, im.programs = make([]string, 13), slices.Repeat([][]byte{{0}}, 13)
		}),
		"255 leaves": lay(func(im *seenImage) {
			im.names, im.programs = make([]string, 255), slices.Repeat([][]byte{{0}}, 255)
		}),
		"a name of 9":   lay(func(im *seenImage) { im.names[2] = "abcdefghi" }),
		"a name of 255": lay(func(im *seenImage) { im.names[0] = strings.Repeat("a", 255) }),
	} {
		wantNone(t, what, image)
	}
	image := small(assemble("HALT")).lay()
	body := image[:len(image)-4]
	for _, head := range []string{"HELM0", "HELM2", "helm1", "HELM\x00", "\x00ELM1", "HELM", ""} {
		wantNone(t, head, summed(head+body[5:]))
	}
	start(t, summed(body))
	for size := range body {
		wantNone(t, "cut off, summed", summed(body[:size]))
	}
	for b := range 256 {
		wantNone(t, "longer, summed", summed(body+string([]byte{byte(b)})))
	}
	wantNone(t, "doubled", summed(body+body))
	wantNone(t, "summed twice", summed(image))
}

func TestLoadTakesTheGreatestCounts(t *testing.T) {
	im := seenImage{low: []int{-32768, 32767, -1}, high: []int{32767, 32767, -1}, first: 11}
	for i := range 12 {
		im.names = append(im.names, "leaf\x00\xff."+string(rune('a'+i)))
		im.programs = append(im.programs, assemble("LESS 3 -32767, SKIP 2, GOES "+strconv.Itoa((i+5)%12)+", LESS 0 32767, SKIP 1, HALT, GOES "+strconv.Itoa((i+11)%12)))
	}
	m := start(t, im.lay())
	wantMode(t, m, "leaf\x00\xff.l")
	for _, c := range []struct {
		number int
		want   string
	}{{32767, "k"}, {-32768, "d"}, {-32767, "d"}, {32767, "d"}, {32766, "c"}, {32766, "c"}} {
		if name, e := m.Step([]int{c.number, 32767, -1}); name != "leaf\x00\xff."+c.want || e != api.OK {
			t.Errorf("Step of %d: %q, %d, want %q", c.number, name, e, c.want)
		}
	}
	for _, sample := range [][]int{{-32769, 32767, -1}, {32768, 32767, -1}, {0, 32766, -1}, {0, 32768, -1}, {0, -32769, -1}, {0, 32767, 0}, {0, 32767, -2}, {0, 32767, 65535}, {0, 32767}} {
		wantNoSample(t, m, sample)
	}
}

func TestNothingIsASampleIfTheLeastIsAboveTheGreatest(t *testing.T) {
	for i := range 2 {
		im := small(assemble("GOES 0"))
		im.low[i], im.high[i] = 4, 3
		m := start(t, im.lay())
		for n := -10; n < 10; n++ {
			wantNoSample(t, m, []int{n, n})
			wantNoSample(t, m, []int{0, n})
			wantNoSample(t, m, []int{n, 0})
		}
		wantNoSample(t, m, nil)
		m.Reset()
		wantMode(t, m, "b")
	}
}

func TestLeavesMayHaveOneName(t *testing.T) {
	im := small(assemble("GOES 2"))
	im.names = []string{"same", "same", ""}
	im.programs[2] = assemble("GOES 0")
	im.programs[0] = assemble("YES, SKIP 1, HALT, GOES 1")
	m := start(t, im.lay())
	wantMode(t, m, "same")
	for _, want := range []string{"", "same", "same", "same"} {
		if name, e := m.Step([]int{0, 0}); name != want || e != api.OK || m.Mode() != want {
			t.Errorf("Step = %q, %d, want %q", name, e, want)
		}
	}
}

func TestLoadTakesAsManyBytesAsThereMayBe(t *testing.T) {
	for _, size := range []int{59999, 60000, 60001, 60002, 65000} {
		im := small(nil)
		im.programs[1] = append(slices.Repeat(assemble("YES, SKIP 0"), (size-len(im.lay())-4)/4), assemble("HALT")...)
		for len(im.lay()) < size {
			im.programs[1] = slices.Concat(assemble("YES"), im.programs[1]) // a truth that nobody takes
		}
		image := im.lay()
		if len(image) != size {
			t.Fatalf("%d bytes, want %d", len(image), size)
		}
		if size > 60000 {
			wantNone(t, "too many bytes", image)
			continue
		}
		if name, e := start(t, image).Step([]int{0, 0}); name != "b" || e != api.OK {
			t.Errorf("of %d bytes: Step = %q, %d", size, name, e)
		}
	}
	wantNone(t, "very many bytes", summed(strings.Repeat("HELM1", 1<<20)))
	im := small(nil)
	im.names, im.programs = slices.Repeat([]string{"a"}, 12), slices.Repeat([][]byte{append(slices.Repeat([]byte{6, 5, 2, 0, 0}, 5000/5), 0)}, 12)
	if len(im.lay()) <= 60000 {
		t.Errorf("only %d bytes", len(im.lay()))
	}
	wantNone(t, "many programs", im.lay())
}

func TestLoadRefusesImagesWithOtherBits(t *testing.T) {
	image, _ := Compile(example)
	for i := range image {
		for bit := range 8 {
			turned := []byte(image)
			turned[i] ^= 1 << bit
			wantNone(t, "a bit turned", string(turned))
		}
		wantNone(t, "cut off", image[:i])
		wantNone(t, "without its head", image[i+1:])
		wantNone(t, "longer", image+image[:i+1])
		wantNone(t, "longer", image+string(make([]byte, i+1)))
	}
	start(t, image)
}

func TestLoadHangsOnTheImageAlone(t *testing.T) {
	image, _ := Compile(example)
	for range 3 {
		wantWay(t, start(t, image), "slow fast", 5, 5)
		wantNone(t, "cut off", image[1:])
	}
}

// wantAsSeen holds what Load answers, and where the machine goes, against the second reader of images.
func wantAsSeen(t *testing.T, random *rand.Rand, image string) bool {
	t.Helper()
	im, wrong := wrongImage(image)
	m, ok := Load(image)
	if ok != (wrong == "") || ok != (m != nil) {
		t.Fatalf("Load(%x) = %v, %v, but it is wrong: %q", image, m, ok, wrong)
	}
	if !ok {
		return false
	}
	at := im.first
	wantMode(t, m, im.names[at])
	var ahead []int
	for range 6 {
		sample := []int{}
		none := false
		for i, low := range im.low {
			sample = append(sample, low+random.IntN(max(1, im.high[i]-low+1)))
			none = none || low > im.high[i]
		}
		if none {
			wantNoSample(t, m, sample)
			continue
		}
		if ahead == nil {
			ahead = sample
		}
		at = im.nextNumber(at, ahead, sample)
		if name, e := m.Step(sample); name != im.names[at] || e != api.OK || m.Mode() != name {
			t.Fatalf("%x: Step(%v) behind %v = %q, %d, want %q", image, sample, ahead, name, e, im.names[at])
		}
		ahead = sample
	}
	return true
}

// TestLoadAllShortPrograms: all programs of few bytes, of those that are something.
func TestLoadAllShortPrograms(t *testing.T) {
	random := rand.New(rand.NewPCG(1, 1))
	right := 0
	for size, most := range []int{10, 10, 10, 10, 10, 10, 8} {
		program := make([]byte, size)
		for {
			im := seenImage{low: []int{0}, high: []int{5}, names: []string{"a", "b"}, programs: [][]byte{program, {1, 0}}}
			if wantAsSeen(t, random, im.lay()) {
				right++
			}
			i := 0
			for i < size && int(program[i]) == most-1 {
				program[i] = 0
				i++
			}
			if i == size {
				break
			}
			program[i]++
		}
	}
	t.Logf("%d are right", right)
	if right < 500 {
		t.Errorf("only %d are right", right)
	}
}

// programMaker makes programs that are right: it keeps the SKIPs whose end is still open, each with its count of truths.
type programMaker struct {
	*rand.Rand
	leaves, numbers int
	program         []byte
	count           int
	isOpen          bool // whether one comes to what is next
	skips           []come
}

// land lets open SKIPs end here: those with the count of truths there is now.
func (m *programMaker) land(chance int) {
	var rest []come
	for _, s := range m.skips {
		if s.count != m.count || m.IntN(chance) != 0 {
			rest = append(rest, s)
			continue
		}
		count := len(m.program) - (s.at + 3)
		m.program[s.at+1], m.program[s.at+2] = byte(count), byte(count>>8)
		m.isOpen = true
	}
	m.skips = rest
}

func (m *programMaker) add() {
	end := m.IntN(20)
	switch kind := m.IntN(9); {
	case end == 0:
		m.program = append(m.program, 0)
		m.isOpen = false
	case end == 1:
		m.program = append(m.program, 1, byte(m.IntN(m.leaves)))
		m.isOpen = false
	case kind == 2 && m.count > 0:
		m.count--
		m.skips = append(m.skips, come{len(m.program), m.count})
		m.program = append(m.program, 2, 0, 0)
	case (kind == 3 || kind == 4) && m.count > 1:
		m.count--
		m.program = append(m.program, byte(kind))
	case kind == 5 && m.count > 0:
		m.program = append(m.program, 5)
	case kind >= 7 && m.numbers > 0 && m.count < 32:
		number := m.IntN(8) - 1
		m.count++
		m.program = append(m.program, byte(kind), byte(m.IntN(m.numbers)), byte(number), byte(number>>8))
	case m.count < 32:
		m.count++
		m.program = append(m.program, 6)
	}
}

func (m *programMaker) make(size int) []byte {
	m.program, m.count, m.isOpen, m.skips = nil, 0, true, nil
	for len(m.program) < size || m.isOpen || len(m.skips) > 0 {
		if !m.isOpen {
			if len(m.skips) == 0 {
				break
			}
			m.count = m.skips[m.IntN(len(m.skips))].count
			for !m.isOpen {
				m.land(2)
			}
		} else {
			m.land(4)
		}
		if len(m.program) >= size {
			m.land(1)
			m.program = append(m.program, 0)
			m.isOpen = false
			continue
		}
		m.add()
	}
	return m.program
}

func (m *programMaker) image(size int) seenImage {
	im := seenImage{}
	for range m.IntN(4) {
		low := m.IntN(6) - 1
		im.low = append(im.low, low)
		im.high = append(im.high, low+m.IntN(4))
	}
	m.leaves, m.numbers = 1+m.IntN(12), 2*len(im.low)
	im.first = m.IntN(m.leaves)
	for i := range m.leaves {
		im.names = append(im.names, string(rune('a'+i))+strings.Repeat("x", m.IntN(8)))
		im.programs = append(im.programs, slices.Clone(m.make(m.IntN(size))))
	}
	return im
}

func TestLoadOfRightPrograms(t *testing.T) {
	for seed := range uint64(4000) {
		random := rand.New(rand.NewPCG(seed, 21))
		m := &programMaker{Rand: random}
		im := m.image([]int{10, 40, 150}[seed%3])
		if !wantAsSeen(t, random, im.lay()) {
			_, wrong := wrongImage(im.lay())
			t.Fatalf("made %+v: %s", im, wrong)
		}
	}
}

// TestLoadOfNearlyRightPrograms: a byte of a right program is changed, added or dropped.
func TestLoadOfNearlyRightPrograms(t *testing.T) {
	loaded, refused := 0, 0
	for seed := range uint64(20000) {
		random := rand.New(rand.NewPCG(seed, 22))
		m := &programMaker{Rand: random}
		im := m.image([]int{8, 20, 60}[seed%3])
		program := &im.programs[random.IntN(len(im.programs))]
		at := random.IntN(len(*program))
		switch random.IntN(4) {
		case 0:
			(*program)[at] = byte(random.IntN(10))
		case 1:
			(*program)[at] += byte(random.IntN(3)) - 1
		case 2:
			*program = slices.Insert(*program, at, byte(random.IntN(10)))
		case 3:
			*program = slices.Delete(*program, at, at+1)
		}
		if wantAsSeen(t, random, im.lay()) {
			loaded++
		} else {
			refused++
		}
	}
	t.Logf("%d loaded, %d refused", loaded, refused)
	if loaded < 2000 || refused < 2000 {
		t.Errorf("only %d loaded, %d refused", loaded, refused)
	}
}

// TestLoadOfNearlyImages: a byte anywhere is changed, added or dropped, and the sum made anew.
func TestLoadOfNearlyImages(t *testing.T) {
	loaded := 0
	for seed := range uint64(20000) {
		random := rand.New(rand.NewPCG(seed, 23))
		m := &programMaker{Rand: random}
		image := m.image(12).lay()
		body := []byte(image[:len(image)-4])
		at := random.IntN(len(body))
		switch random.IntN(3) {
		case 0:
			body[at] = byte(random.IntN(256))
		case 1:
			body = slices.Insert(body, at, byte(random.IntN(16)))
		case 2:
			body = slices.Delete(body, at, at+1)
		}
		if wantAsSeen(t, random, summed(string(body))) {
			loaded++
		}
	}
	t.Logf("%d loaded", loaded)
	if loaded < 1000 {
		t.Errorf("only %d loaded", loaded)
	}
}

func TestLoadOfAnyBytes(t *testing.T) {
	random := rand.New(rand.NewPCG(24, 24))
	for range 20000 {
		bytes := make([]byte, random.IntN(60))
		for i := range bytes {
			bytes[i] = byte(random.IntN([]int{4, 10, 256}[random.IntN(3)]))
		}
		wantAsSeen(t, random, string(bytes))
		wantAsSeen(t, random, summed(string(bytes)))
		wantAsSeen(t, random, summed("HELM1"+string(bytes)))
	}
}
