package helm

import (
	"math"
	"math/rand/v2"
	"slices"
	"strconv"
	"strings"
	"sync"
	"testing"
	"unsafe"

	"helm/api"
)

// boot makes a machine of a table.
func boot(t *testing.T, text string) *Machine {
	t.Helper()
	image, f := Compile(text)
	if !isNoFault(f) {
		t.Fatalf("Compile(%q): %+v", text, f)
	}
	return start(t, image)
}

// start makes a machine of an image.
func start(t *testing.T, image string) *Machine {
	t.Helper()
	m, ok := Load(image)
	if m == nil || !ok {
		t.Fatalf("Load(%.200x) = %v, %v", image, m, ok)
	}
	return m
}

// wantWay asks for the leaves to which a machine with one variable goes, by names with blanks between them.
func wantWay(t *testing.T, m *Machine, want string, numbers ...int) {
	t.Helper()
	var way []string
	for _, n := range numbers {
		name, e := m.Step([]int{n})
		if e != api.OK || m.Mode() != name {
			t.Errorf("Step(%d) = %q, %d, then Mode() = %q", n, name, e, m.Mode())
		}
		way = append(way, name)
	}
	if got := strings.Join(way, " "); got != want {
		t.Errorf("with %v a machine is at %q, want %q", numbers, got, want)
	}
}

func wantMode(t *testing.T, m *Machine, want string) {
	t.Helper()
	if got := m.Mode(); got != want {
		t.Errorf("Mode() = %q, want %q", got, want)
	}
}

// wantNoSample asks for a refusal that changes nothing that is seen at once.
func wantNoSample(t *testing.T, m *Machine, sample []int) {
	t.Helper()
	mode := m.Mode()
	if name, e := m.Step(sample); name != "" || e != api.ErrSample || m.Mode() != mode {
		t.Errorf("at %q: Step(%v) = %q, %d, then Mode() = %q", mode, sample, name, e, m.Mode())
	}
}

func TestMachineOfTheExample(t *testing.T) {
	m := boot(t, example)
	wantMode(t, m, "off")
	for range 3 {
		wantWay(t, m, "slow fast fast off off slow off", 5, 5, 25, 30, 5, 5, 110)
		m.Reset()
		wantMode(t, m, "off")
	}
	wantWay(t, m, "off off slow slow slow slow fast fast off", 10, 9, -20, 20, 29, 20, 19, -20, 120)
}

func TestMachineIsAtFirstWhereTheOutermostModeEnters(t *testing.T) {
	for text, want := range map[string]string{
		"mode a { when true stay; }":                               "a",
		"mode a { when true stay; mode b { } default mode c { } }": "c",
		"mode a { when true stay; mode b { default mode c { } } default mode d { mode e { } default mode f { } } }": "f",
		"mode a { when true stay; default mode b { mode c { } default mode d { default mode e { } mode f { } } } }": "e",
	} {
		m := boot(t, text)
		wantMode(t, m, want)
		if name, e := m.Step(nil); name != want || e != api.OK {
			t.Errorf("%q: Step(nil) = %q, %d, want %q", text, name, e, want)
		}
	}
}

func TestMachineEntersByDefault(t *testing.T) {
	m := boot(t, "var x 0 .. 9; mode top { when x == 9 to top; default mode a { when x == 1 to b; when x != 1 stay; mode a1 { } default mode a2 { } } mode b { when x == 2 to a1; when x == 3 to b; mode b1 { when x < 5 stay; when x >= 5 to a; } default mode b2 { when x < 5 to b1; when x >= 5 stay; } } }")
	wantWay(t, m, "a2 b2 b2 b1 b1 b2 b1 a2 b2 a1 a1 a2", 4, 1, 6, 4, 1, 3, 0, 8, 1, 2, 5, 9)
}

func TestMachineAsksOuterModesFirst(t *testing.T) {
	const inner = "default mode one { when true to two; } mode two { when true to one; }"
	m := boot(t, "var x 0 .. 9; mode top { when x == 1 to out; default mode mid { when x == 1 to one; when x == 2 to three; when x == 3 stay; "+inner+
		" mode three { when x < 4 to one; when x >= 4 stay; } } mode out { when x == 2 to one; when x != 2 stay; } }")
	wantWay(t, m, "two one three three out out out one three out", 4, 5, 2, 3, 1, 1, 9, 2, 2, 1)
}

const differs = "var x 0 .. 9; mode top { when x == 1 and was x == 1 to both; when x == 1 and was x != 1 to now; when x != 1 and was x == 1 to before; when x != 1 and was x != 1 to none; default mode first { } mode both { } mode now { } mode before { } mode none { } }"

func TestWasAsksOfTheSampleAhead(t *testing.T) {
	m := boot(t, differs)
	wantWay(t, m, "none now both before none", 0, 1, 1, 2, 3)
	m.Reset()
	wantMode(t, m, "first")
	wantWay(t, m, "both before now", 1, 2, 1)
	for _, sample := range [][]int{nil, {}, {10}, {-1}, {2, 2}} {
		wantNoSample(t, m, sample)
	}
	wantWay(t, m, "both before", 1, 9)
	m.Reset()
	wantNoSample(t, m, []int{10})
	m.Reset()
	m.Reset()
	wantWay(t, m, "both before none", 1, 0, 0)
	n := boot(t, differs)
	wantNoSample(t, n, []int{-1})
	wantNoSample(t, n, []int{10})
	wantWay(t, n, "both", 1)
}

func TestWasAsksOfEachNumber(t *testing.T) {
	for i, name := range []string{"a", "b", "c"} {
		m := boot(t, "var a 0 .. 9; var b 0 .. 9; var c 0 .. 9; mode top { when was "+name+" < 5 to low; when was "+name+" >= 5 to high; default mode low { } mode high { } }")
		sample := []int{0, 0, 0}
		for _, n := range []int{7, 2, 2, 5, 4, 9} {
			for j := range sample {
				sample[j] = 9 - n
			}
			ahead := slices.Clone(sample)
			ahead[i] = n
			m.Step(ahead)
			want := "low"
			if n >= 5 {
				want = "high"
			}
			if got, e := m.Step(sample); got != want || e != api.OK {
				t.Errorf("was %s: behind %v Step(%v) = %q, %d, want %q", name, ahead, sample, got, e, want)
			}
		}
	}
}

// shown is what a machine shows: it goes along with one by the words of the document.
type shown struct {
	judged *judged
	leaf   string
	ahead  []int
}

func (s *shown) reset() {
	s.leaf, s.ahead = s.judged.enters(s.judged.modes[0].name), nil
}

func (s *shown) step(sample []int) (string, api.Errno) {
	for i, n := range sample {
		if i >= len(s.judged.vars) || n < s.judged.low[i] || n > s.judged.high[i] {
			return "", api.ErrSample
		}
	}
	if len(sample) != len(s.judged.vars) {
		return "", api.ErrSample
	}
	if s.ahead == nil {
		s.ahead = sample
	}
	_, s.leaf = s.judged.judge(s.leaf, s.ahead, sample)
	s.ahead = sample
	return s.leaf, api.OK
}

// TestCallsInEveryOrder: all rows of six calls among these, on one machine each.
func TestCallsInEveryOrder(t *testing.T) {
	image, _ := Compile(example)
	calls := [][]int{{5}, {25}, {30}, {121}, nil} // nil: Reset
	want := &shown{judged: judgeOf(example)}
	const long = 6
	all := int(math.Pow(float64(len(calls)), long))
	for order := range all {
		m := start(t, image)
		want.reset()
		for range long {
			sample := calls[order%len(calls)]
			order /= len(calls)
			if sample == nil {
				m.Reset()
				want.reset()
			} else {
				name, e := m.Step(sample)
				if wantName, wantE := want.step(sample); name != wantName || e != wantE {
					t.Fatalf("order %d: Step(%v) = %q, %d, want %q, %d", order, sample, name, e, wantName, wantE)
				}
			}
			if m.Mode() != want.leaf || m.Mode() != want.leaf {
				t.Fatalf("order %d: Mode() = %q, want %q", order, m.Mode(), want.leaf)
			}
		}
	}
}

func TestNoSamples(t *testing.T) {
	m := boot(t, "var a -3 .. 4; var b 7 .. 7; var c -1000 .. 1000; mode top { when c < 0 to low; when c >= 0 to high; default mode at { } mode low { } mode high { } }")
	for _, first := range []string{"at", "low"} {
		wantMode(t, m, first)
		for _, sample := range [][]int{nil, {}, {0}, {0, 7}, {0, 7, 0, 0}, {0, 7, 0, 0, 7, 0}, {-4, 7, 0}, {5, 7, 0}, {0, 6, 0}, {0, 8, 0}, {0, 7, -1001}, {0, 7, 1001},
			{math.MaxInt, 7, 0}, {math.MinInt, 7, 0}, {0, 7, math.MaxInt}, {0, 7, math.MinInt}, {1 << 16, 7, 0}, {0, 7 + 1<<16, 0}, {0, 7 + 1<<32, 0}, {0, 7 - 1<<16, 0}, {-4, 8, -1001}, make([]int, 100000)} {
			wantNoSample(t, m, sample)
		}
		m.Step([]int{0, 7, -1})
	}
	for _, sample := range [][]int{{-3, 7, -1000}, {4, 7, -1000}, {-3, 7, -1}} {
		if name, e := m.Step(sample); name != "low" || e != api.OK {
			t.Errorf("Step(%v) = %q, %d", sample, name, e)
		}
	}
	if name, e := m.Step([]int{4, 7, 1000}); name != "high" || e != api.OK {
		t.Errorf("Step of the greatest numbers = %q, %d", name, e)
	}
}

func TestMachineWithoutVariables(t *testing.T) {
	m := boot(t, "mode a { default mode b { when true to c; } mode c { when true to b; } }")
	for i := range 6 {
		wantNoSample(t, m, []int{0})
		name, e := m.Step([][]int{nil, {}, make([]int, 0, 9)}[i%3])
		if want := []string{"c", "b"}[i%2]; name != want || e != api.OK {
			t.Errorf("Step %d: %q, %d, want %q", i, name, e, want)
		}
	}
}

func TestMachinesKnowNothingOfOneAnother(t *testing.T) {
	image, _ := Compile(example)
	m, n := start(t, image), start(t, image)
	o := boot(t, differs)
	wantWay(t, m, "slow", 5)
	wantMode(t, n, "off")
	wantMode(t, o, "first")
	wantWay(t, n, "off", 50)
	wantWay(t, o, "both", 1)
	wantWay(t, n, "off", 5)
	wantWay(t, m, "fast", 5)
	wantWay(t, o, "before", 2)
	m.Reset()
	wantWay(t, n, "slow", 5)
	wantWay(t, o, "none", 3)
	wantNoSample(t, m, []int{121})
	wantWay(t, m, "off off", 99, 9)
	n.Reset()
	wantWay(t, n, "slow", 5)
	wantWay(t, m, "slow", 9)
	p := start(t, image)
	wantMode(t, p, "off")
	wantWay(t, p, "off", 99)
	wantWay(t, n, "fast", 5)
}

func TestMachinesBesideOneAnother(t *testing.T) {
	texts := []string{example, differs}
	var group sync.WaitGroup
	for i := range 8 {
		group.Go(func() {
			image, _ := Compile(texts[i%2])
			m, _ := Load(image)
			want := &shown{judged: judgeOf(texts[i%2])}
			want.reset()
			random := rand.New(rand.NewPCG(uint64(i), 1))
			for range 2000 {
				sample := []int{random.IntN(40)}
				name, e := m.Step(sample)
				if wantName, wantE := want.step(sample); name != wantName || e != wantE || m.Mode() != want.leaf {
					t.Errorf("Step(%v) = %q, %d, want %q, %d", sample, name, e, wantName, wantE)
					return
				}
			}
		})
	}
	group.Wait()
}

func TestSampleIsTheCallers(t *testing.T) {
	m := boot(t, differs)
	room := []int{7, 1, 7, 7}
	sample := room[1:2]
	for _, c := range []struct {
		number int
		want   string
	}{{1, "both"}, {1, "both"}, {2, "before"}, {1, "now"}, {4, "before"}, {10, ""}, {4, "none"}} {
		sample[0] = c.number
		if name, _ := m.Step(sample); name != c.want {
			t.Errorf("Step(%v) = %q, want %q", sample, name, c.want)
		}
		if !slices.Equal(room, []int{7, c.number, 7, 7}) {
			t.Errorf("Step changed its sample, or what is behind it: %v", room)
		}
		sample[0] = 5 - c.number // what is kept of it would be another now
	}
}

func TestLoadDoesNotKeepTheImage(t *testing.T) {
	image, _ := Compile(example)
	bytes := []byte(image)
	m := start(t, unsafe.String(&bytes[0], len(bytes)))
	if string(bytes) != image {
		t.Errorf("Load changed the image: %x", bytes)
	}
	mode := m.Mode()
	clear(bytes)
	if mode != "off" {
		t.Errorf("what Mode answered is %q now", mode)
	}
	wantMode(t, m, "off")
	wantWay(t, m, "slow fast fast off off slow off", 5, 5, 25, 30, 5, 5, 110)
	wantNoSample(t, m, []int{121})
	m.Reset()
	wantMode(t, m, "off")
}

func TestNamesAreNewMemory(t *testing.T) {
	m := boot(t, example)
	stepped, _ := m.Step([]int{5})
	names := []string{m.Mode(), stepped, m.Mode()}
	for i, one := range names {
		for _, other := range names[:i] {
			if unsafe.StringData(one) == unsafe.StringData(other) {
				t.Errorf("names share memory: %q", names)
			}
		}
	}
	clear(unsafe.Slice(unsafe.StringData(stepped), len(stepped)))
	wantMode(t, m, "slow")
}

// TestMachinesGoAsTheirTablesSay: machines of tables that were made, on ways that hold all kinds of samples.
func TestMachinesGoAsTheirTablesSay(t *testing.T) {
	machines, steps := 0, map[api.Errno]int{}
	for seed := range uint64(3000) {
		maker := &caseMaker{Rand: rand.New(rand.NewPCG(seed, 17))}
		text := maker.table()
		image, f := Compile(text)
		if f.Code != api.OK {
			continue
		}
		machines++
		m := start(t, image)
		want := &shown{judged: judgeOf(text)}
		want.reset()
		wantMode(t, m, want.leaf)
		for range 40 {
			if maker.chance(12) {
				m.Reset()
				want.reset()
			}
			sample := maker.sample()
			name, e := m.Step(sample)
			if wantName, wantE := want.step(sample); name != wantName || e != wantE || m.Mode() != want.leaf {
				t.Fatalf("%q: Step(%v) = %q, %d, want %q, %d", text, sample, name, e, wantName, wantE)
			}
			steps[e]++
		}
	}
	if machines < 500 || steps[api.OK] < 10000 || steps[api.ErrSample] < 1000 {
		t.Errorf("only %d machines with steps %v", machines, steps)
	}
	t.Logf("%d machines, steps %v", machines, steps)
}

// sample makes a sample, or now and then what is none.
func (m *caseMaker) sample() []int {
	sample := []int{}
	for i := range m.low {
		n := m.low[i] + m.IntN(m.high[i]-m.low[i]+1)
		if m.chance(30) {
			n = []int{m.low[i] - 1, m.high[i] + 1}[m.IntN(2)]
		}
		sample = append(sample, n)
	}
	if m.chance(30) {
		sample = append(sample, 0)
	}
	if m.chance(30) && len(sample) > 0 {
		sample = sample[1:]
	}
	return sample
}

func TestMachineOfAGreatTable(t *testing.T) {
	rows := ""
	for i := range 7 {
		at := strconv.Itoa(i * 100)
		rows += "when not a < " + at + " and a < " + strconv.Itoa(i*100+100) + " to n" + strconv.Itoa(i) + ";"
	}
	m := boot(t, greatHead+rows+"when a < 0 or not a < 700 stay;"+greatTail)
	wantMode(t, m, "m")
	for _, c := range []struct {
		a    int
		want string
	}{{-1, "m"}, {700, "m"}, {0, "n0"}, {99, "n0"}, {100, "n1"}, {650, "n6"}, {1000, "n6"}, {-1000, "n6"}, {399, "n3"}} {
		if name, e := m.Step([]int{c.a, 1000, -1000}); name != c.want || e != api.OK {
			t.Errorf("Step of %d: %q, %d, want %q", c.a, name, e, c.want)
		}
	}
}
