package helm

import (
	"math"
	"math/rand/v2"
	"slices"
	"strings"
	"testing"

	"helm/api"
)

// images are some that Load takes, those of Compile and others, the least one among them.
func images(t *testing.T) []string {
	t.Helper()
	list := []string{
		bytesOf(t, "48 45 4c 4d 31 00 01 00 01 61 06 00 06 02 01 00 00 00 f1 7d 6a 07"),
		summed("HELM1\x00\x01\x00\x00\x01\x00\x00"),
		small(assemble("LESS 2 -3, SKIP 2, GOES 2, SAME 1 300, TURN, SKIP 1, HALT, GOES 0")).lay(),
	}
	for _, text := range []string{example, differs} {
		image, _ := Compile(text)
		list = append(list, image)
	}
	for seed := range uint64(4) {
		m := &programMaker{Rand: rand.New(rand.NewPCG(seed, 31))}
		list = append(list, m.image(10).lay())
	}
	for _, image := range list {
		start(t, image)
	}
	return list
}

// greatImage has as many bytes as there may be.
func greatImage() string {
	im := small(nil)
	long := api.MaxImage - len(im.lay()) - 1
	im.programs[1] = slices.Concat(slices.Repeat(assemble("YES"), 1+long%4), slices.Repeat(assemble("YES, SKIP 0"), long/4-1), assemble("YES, YES, YES, HALT"))
	return im.lay()
}

// turned has the bits of the pattern turned: its lowest one at the given bit of the image, which are counted byte by byte, in each byte from bit 0 up.
func turned(image string, first int, pattern uint32) string {
	bytes := []byte(image)
	for i := range 32 {
		if pattern>>i&1 == 1 {
			bytes[(first+i)/8] ^= 1 << ((first + i) % 8)
		}
	}
	return string(bytes)
}

// patterns are some that are just so wide: the two ends, all, and some between.
func patterns(random *rand.Rand, width int) []uint32 {
	ends := uint32(1) | 1<<(width-1)
	all := uint32(1<<width - 1)
	return []uint32{ends, all, ends | random.Uint32()&all}
}

func TestLoadRefusesBitsTurnedWithinARow(t *testing.T) {
	random := rand.New(rand.NewPCG(41, 41))
	for _, image := range images(t) {
		for first := range 8 * len(image) {
			for width := 1; width <= 32 && first+width <= 8*len(image); width++ {
				for _, pattern := range patterns(random, width) {
					wantNone(t, "bits turned", turned(image, first, pattern))
				}
			}
		}
	}
}

// TestLoadRefusesAllPatterns: at every place of the document's image all that can be turned in a short row.
func TestLoadRefusesAllPatterns(t *testing.T) {
	image := images(t)[0]
	for first := range 8 * len(image) {
		width := min(12, 8*len(image)-first)
		for pattern := uint32(1); pattern < 1<<width; pattern += 2 {
			wantNone(t, "bits turned", turned(image, first, pattern))
		}
	}
}

func TestLoadRefusesBitsTurnedInAGreatImage(t *testing.T) {
	random := rand.New(rand.NewPCG(42, 42))
	image := greatImage()
	start(t, image)
	last := 8*len(image) - 32
	places := []int{0, 40, last, last - 1, last - 31, last - 32}
	for range 40 {
		places = append(places, random.IntN(last+1))
	}
	for _, first := range places {
		for _, pattern := range patterns(random, 1+random.IntN(32)) {
			wantNone(t, "bits turned", turned(image, first, pattern))
		}
	}
}

func TestLoadRefusesWhatIsCutOff(t *testing.T) {
	for _, image := range images(t) {
		for size := range image {
			wantNone(t, "cut off", image[:size])
		}
	}
	image := greatImage()
	start(t, image)
	for size := 1; size < len(image); size += 997 {
		wantNone(t, "cut off", image[:len(image)-size])
	}
}

// TestLoadRefusesWhatIsCutOffBehindASum: in a name there may be any bytes, also those that are a sum of what is ahead of them.
func TestLoadRefusesWhatIsCutOffBehindASum(t *testing.T) {
	for leaf := range 3 {
		im := small(assemble("GOES 2"))
		im.names[leaf] = "1234"
		body, _, _ := strings.Cut(im.lay(), "1234")
		cut := summed(body)
		im.names[leaf] = cut[len(body):]
		image := im.lay()
		if !strings.HasPrefix(image, cut) {
			t.Fatalf("%x does not begin with %x", image, cut)
		}
		start(t, image)
		wantNone(t, "cut off behind a sum", cut)
	}
}

func TestLoadRefusesWhatHasSomethingBehind(t *testing.T) {
	random := rand.New(rand.NewPCG(43, 43))
	list := images(t)
	for _, image := range list {
		body := image[:len(image)-4]
		for b := range 256 {
			more := string([]byte{byte(b)})
			wantNone(t, "a byte behind", image+more)
			wantNone(t, "a byte behind, summed", summed(image+more))
			wantNone(t, "a byte ahead of the sum", summed(body+more))
		}
		for range 300 {
			more := make([]byte, 1+random.IntN(40))
			for i := range more {
				more[i] = byte(random.IntN(256))
			}
			wantNone(t, "bytes behind", image+string(more))
			wantNone(t, "bytes behind, summed", summed(image+string(more)))
		}
		for size := range 64 {
			wantNone(t, "noughts behind", image+string(make([]byte, size+1)))
		}
		wantNone(t, "its sum behind", image+image[len(body):])
		wantNone(t, "summed twice", summed(image))
		for _, other := range list {
			wantNone(t, "an image behind", image+other)
		}
	}
}

// TestLoadWithEveryByte: at every place every byte, the sum made anew: counts that are too great, leaves that there are not, programs that are not right, and what is still an image.
func TestLoadWithEveryByte(t *testing.T) {
	random := rand.New(rand.NewPCG(44, 44))
	loaded, refused := 0, 0
	for _, image := range images(t)[:5] { // the others are long and have nothing new
		for at := range len(image) - 4 {
			for b := range 256 {
				body := []byte(image[:len(image)-4])
				body[at] = byte(b)
				if wantAsSeen(t, random, summed(string(body))) {
					loaded++
				} else {
					refused++
				}
			}
		}
	}
	t.Logf("%d loaded, %d refused", loaded, refused)
	if loaded < 1000 || refused < 1000 {
		t.Errorf("only %d loaded, %d refused", loaded, refused)
	}
}

// TestLoadRefusesWrongContents: the sum is right, and each of these is wrong in one way only.
func TestLoadRefusesWrongContents(t *testing.T) {
	leaf := "\x01a\x01\x00\x00"
	for _, c := range []struct{ what, right, wrong string }{
		{"the head", "HELM1\x00\x01\x00" + leaf, "HELM2\x00\x01\x00" + leaf},
		{"variables", "HELM1\x03" + strings.Repeat("\x00\x00\x09\x00", 3) + "\x01\x00" + leaf, "HELM1\x04" + strings.Repeat("\x00\x00\x09\x00", 4) + "\x01\x00" + leaf},
		{"leaves", "HELM1\x00\x0c\x00" + strings.Repeat(leaf, 12), "HELM1\x00\x0d\x00" + strings.Repeat(leaf, 13)},
		{"no leaf", "HELM1\x00\x01\x00" + leaf, "HELM1\x00\x00\x00"},
		{"the first leaf", "HELM1\x00\x02\x01" + leaf + leaf, "HELM1\x00\x02\x02" + leaf + leaf},
		{"a name", "HELM1\x00\x01\x00\x08abcdefgh\x01\x00\x00", "HELM1\x00\x01\x00\x09abcdefghi\x01\x00\x00"},
		{"the name of the last leaf", "HELM1\x00\x02\x00" + leaf + "\x08abcdefgh\x01\x00\x00", "HELM1\x00\x02\x00" + leaf + "\x09abcdefghi\x01\x00\x00"},
		{"a count of bytes", "HELM1\x00\x01\x00\x01a\x02\x00\x06\x00", "HELM1\x00\x01\x00\x01a\x03\x00\x06\x00"},
		{"a count of bytes, its high byte", "HELM1\x00\x01\x00\x01a\x02\x00\x06\x00", "HELM1\x00\x01\x00\x01a\x02\x01\x06\x00"},
		{"a leaf more", "HELM1\x00\x02\x00" + leaf + leaf, "HELM1\x00\x01\x00" + leaf + leaf},
		{"a leaf less", "HELM1\x00\x01\x00" + leaf, "HELM1\x00\x02\x00" + leaf},
		{"an empty program", "HELM1\x00\x01\x00" + leaf, "HELM1\x00\x01\x00\x01a\x00\x00"},
		{"a number of samples", "HELM1\x01\x00\x00\x09\x00\x01\x00\x01a\x05\x00\x07\x01\x00\x00\x00", "HELM1\x01\x00\x00\x09\x00\x01\x00\x01a\x05\x00\x07\x02\x00\x00\x00"},
		{"a number where there is none", "HELM1\x01\x00\x00\x09\x00\x01\x00\x01a\x05\x00\x08\x00\x00\x00\x00", "HELM1\x00\x01\x00\x01a\x05\x00\x08\x00\x00\x00\x00"},
		{"a leaf to go to", "HELM1\x00\x01\x00\x01a\x02\x00\x01\x00", "HELM1\x00\x01\x00\x01a\x02\x00\x01\x01"},
	} {
		wantTame(t, summed(c.right))
		start(t, summed(c.right))
		wantNone(t, c.what, summed(c.wrong))
	}
}

// TestLoadRefusesWrongProgramsOfEachLeaf: whichever of the most leaves has it, and with nothing else wrong.
func TestLoadRefusesWrongProgramsOfEachLeaf(t *testing.T) {
	for wrong, programs := range wrongPrograms() {
		for _, text := range programs {
			for leaf := range api.MaxModes {
				im := seenImage{low: []int{-5, 0}, high: []int{5, 300}}
				im.names = slices.Repeat([]string{"a"}, api.MaxModes)
				im.programs = slices.Repeat([][]byte{assemble("HALT")}, api.MaxModes)
				start(t, im.lay())
				im.programs[leaf] = assemble(strings.ReplaceAll(text, "GOES 3", "GOES 12"))
				wantNone(t, wrong+": "+text, im.lay())
			}
		}
	}
}

// strangeSamples are lists of every kind, some of which are samples of the machine.
func strangeSamples(m *Machine) [][]int {
	var least, greatest, between []int
	for _, v := range m.image.Vars {
		least, greatest = append(least, v.Least), append(greatest, v.Greatest)
		between = append(between, (v.Least+v.Greatest)/2)
	}
	return [][]int{nil, least, {}, greatest, between, {0}, {5}, least, {-1}, {0, 0}, greatest, {3, 7}, {0, 0, 0}, {1, 2, 3}, between, {1, 2, 3, 4},
		{-32769}, {32768}, {math.MinInt}, {math.MaxInt, math.MinInt}, {math.MaxInt, math.MinInt, math.MaxInt}, greatest, make([]int, 1000), least}
}

// tell is what a machine answers to all strange samples, and that it answers as any machine must.
func tell(t *testing.T, m *Machine) []string {
	t.Helper()
	told := []string{m.Mode()}
	for _, sample := range strangeSamples(m) {
		ahead := m.Mode()
		name, e := m.Step(sample)
		if e != api.OK && e != api.ErrSample {
			t.Fatalf("Step(%v) = %q, %d", sample, name, e)
		}
		if e == api.ErrSample && (name != "" || m.Mode() != ahead) || e == api.OK && m.Mode() != name {
			t.Fatalf("at %q: Step(%v) = %q, %d, then Mode() = %q", ahead, sample, name, e, m.Mode())
		}
		if len(name) > api.MaxName || len(m.Mode()) > api.MaxName {
			t.Fatalf("Step(%v) = %q, then Mode() = %q", sample, name, m.Mode())
		}
		told = append(told, name, string(rune('0'+e)))
	}
	return told
}

// wantTame asks of any bytes whether Load answers nothing, or a machine that does no harm and, set back, does as it did.
func wantTame(t *testing.T, bytes string) bool {
	t.Helper()
	m, ok := Load(bytes)
	if ok != (m != nil) {
		t.Fatalf("Load(%.200x) = %v, %v", bytes, m, ok)
	}
	if !ok {
		return false
	}
	first := tell(t, m)
	m.Reset()
	if again := tell(t, m); !slices.Equal(first, again) {
		t.Fatalf("%.200x: first %q, then, set back, %q", bytes, first, again)
	}
	if other := tell(t, start(t, bytes)); !slices.Equal(first, other) {
		t.Fatalf("%.200x: one tells %q, another %q", bytes, first, other)
	}
	return true
}

func TestLoadOfAllShortBytes(t *testing.T) {
	wantTame(t, "")
	for a := range 256 {
		wantTame(t, string([]byte{byte(a)}))
		wantTame(t, summed(string([]byte{byte(a)})))
		for b := range 256 {
			two := string([]byte{byte(a), byte(b)})
			wantTame(t, two)
			wantTame(t, summed(two))
			wantTame(t, summed("HELM1"+two))
			wantTame(t, summed("HELM1\x00"+two+"\x00\x01\x00\x00"))
			wantTame(t, summed("HELM1\x00\x01\x00\x00"+two+"\x00"))
			wantTame(t, summed("HELM1\x00\x01\x00\x00\x02\x00"+two))
			wantTame(t, summed("HELM1\x01\x00\x00\x09\x00\x01\x00\x00\x05\x00\x07"+two+"\x00\x00"))
		}
	}
}

func TestLoadOfLongBytes(t *testing.T) {
	for _, piece := range []string{"\x00", "\x01", "\x06", "\xff", "HELM1", "HELM1\x00", images(t)[0], images(t)[1]} {
		for _, size := range []int{1, 15, 255, 4000, api.MaxImage - 4, api.MaxImage, api.MaxImage + 1, 1 << 16, 1 << 20} {
			bytes := strings.Repeat(piece, size/len(piece)+1)[:size]
			wantTame(t, bytes)
			wantTame(t, summed(bytes))
			wantTame(t, summed("HELM1\x00\x01\x00\x00"+bytes))
		}
	}
	if !wantTame(t, greatImage()) {
		t.Error("the greatest image is refused")
	}
}

func TestStrangeMachinesSetBack(t *testing.T) {
	moved := 0
	for seed := range uint64(3000) {
		m := &programMaker{Rand: rand.New(rand.NewPCG(seed, 45))}
		im := m.image([]int{6, 30, 100}[seed%3])
		for i := range im.names {
			im.names[i] = strings.Repeat(string([]byte{byte(m.IntN(256))}), m.IntN(9))
		}
		if len(im.low) > 0 && m.IntN(8) == 0 {
			im.low[0] = im.high[0] + 1
		}
		if !wantTame(t, im.lay()) {
			t.Fatalf("%+v is refused", im)
		}
		if told := tell(t, start(t, im.lay())); slices.ContainsFunc(told, func(name string) bool { return name != "" && name != "0" && name != "8" && name != told[0] }) {
			moved++
		}
	}
	t.Logf("%d went elsewhere", moved)
	if moved < 300 {
		t.Errorf("only %d machines went elsewhere", moved)
	}
}

// TestStrangeMachineSetBackAnywhere: wherever a machine is, and whatever it was given last, behind Reset it goes its way from the first leaf on, with no sample ahead.
func TestStrangeMachineSetBackAnywhere(t *testing.T) {
	im := seenImage{low: []int{0}, high: []int{9}, first: 2, names: []string{"", "b", "\xff\x00", "b"}}
	im.programs = [][]byte{
		assemble("LESS 0 5, SKIP 2, GOES 1, GOES 3"),
		assemble("LESS 1 5, SKIP 1, HALT, GOES 0"),
		assemble("LESS 0 5, LESS 1 5, TURN, BOTH, SKIP 2, GOES 0, SAME 0 9, SKIP 2, GOES 3, HALT"),
		assemble("GOES 2"),
	}
	m := start(t, im.lay())
	for number := range 10_000 {
		wantMode(t, m, "\xff\x00")
		at, ahead := im.first, []int(nil)
		for rest := number; rest > 0; rest /= 10 {
			sample := []int{rest % 10}
			if ahead == nil {
				ahead = sample
			}
			at = im.nextNumber(at, ahead, sample)
			ahead = sample
			if name, e := m.Step(sample); name != im.names[at] || e != api.OK || m.Mode() != name {
				t.Fatalf("%d: Step(%v) = %q, %d, want %q", number, sample, name, e, im.names[at])
			}
		}
		if number%3 == 0 {
			wantNoSample(t, m, []int{10})
		}
		m.Reset()
		if number%7 == 0 {
			m.Reset()
		}
	}
}

// FuzzLoad holds Load of any bytes, and of any bytes with their sum behind them, against the second reader.
func FuzzLoad(f *testing.F) {
	f.Add("")
	f.Add("HELM1\x00\x01\x00\x00\x01\x00\x00")
	f.Add("HELM1\x01\x00\x00\x09\x00\x02\x00\x01a\x0a\x00\x07\x01\x05\x00\x02\x02\x00\x01\x01\x00\x01b\x01\x00\x00")
	f.Add("HELM1\x00\x01\x00\x01a\x06\x00\x06\x02\x01\x00\x00\x00\xf1\x7d\x6a\x07")
	f.Fuzz(func(t *testing.T, bytes string) {
		random := rand.New(rand.NewPCG(1, 1))
		for _, image := range []string{bytes, summed(bytes), summed("HELM1" + bytes)} {
			wantAsSeen(t, random, image)
			wantTame(t, image)
		}
	})
}
