package helm

import (
	"encoding/hex"
	"hash/crc32"
	"slices"
	"strconv"
	"strings"
	"sync"
	"testing"
	"unsafe"

	"helm/api"
)

// bytesOf reads bytes in hex, with blanks between them and remarks in brackets.
func bytesOf(t *testing.T, text string) string {
	t.Helper()
	for strings.Contains(text, "[") {
		from, to := strings.Index(text, "["), strings.Index(text, "]")
		text = text[:from] + text[to+1:]
	}
	bytes, err := hex.DecodeString(strings.Join(strings.Fields(text), ""))
	if err != nil {
		t.Fatal(err)
	}
	return string(bytes)
}

// summed sets the sum behind an image's other bytes.
func summed(body string) string {
	sum := crc32.ChecksumIEEE([]byte(body))
	return body + string([]byte{byte(sum), byte(sum >> 8), byte(sum >> 16), byte(sum >> 24)})
}

func wantBytes(t *testing.T, text, want string) {
	t.Helper()
	if got, f := Compile(text); got != want || !isNoFault(f) {
		t.Errorf("Compile(%q) = % x, %+v, want % x", text, got, f, want)
	}
}

func TestCompileBytesOfTheLeastTable(t *testing.T) {
	wantBytes(t, "mode a { when true stay; }", bytesOf(t, "48 45 4c 4d 31 00 01 00 01 61 06 00 06 02 01 00 00 00 f1 7d 6a 07"))
}

func TestCompileBytesOfTheExample(t *testing.T) {
	const top = "07 01 65 00 05 02 02 00 01 00 "
	const on = "07 01 1e 00 05 02 02 00 01 00 "
	const cold = "07 01 0a 00 07 00 0a 00 03 "
	wantBytes(t, example, summed(bytesOf(t, "[HELM1] 48 45 4c 4d 31 [heat] 01 ec ff 78 00 [leaves, the first] 03 00"+
		"[off] 03 6f 66 66 27 00"+top+cold+"02 02 00 01 01"+cold+"05 02 01 00 00 00"+
		"[slow] 04 73 6c 6f 77 2c 00"+top+on+"07 01 14 00 05 07 01 1e 00 03 02 01 00 00 07 01 14 00 02 02 00 01 02 00"+
		"[fast] 04 66 61 73 74 1d 00"+top+on+"07 01 1e 00 02 01 00 00 00")))
}

func TestCompileBytesOfAtoms(t *testing.T) {
	const head = "48 45 4c 4d 31 02 18 fc e8 03 ff ff ff ff 01 00 01 61 "
	for _, c := range []struct{ atom, code string }{
		{"x < -1000", "07 02 18 fc"}, {"x <= 1000", "07 02 e9 03"}, {"x == 300", "08 02 2c 01"},
		{"x != -1", "08 02 ff ff 05"}, {"x >= -2", "07 02 fe ff 05"}, {"x > -1", "07 02 00 00 05"},
		{"was x < 1", "07 00 01 00"}, {"y == 0", "08 03 00 00"}, {"was y == -0", "08 01 00 00"},
		{"(x < 1) and not true", "07 02 01 00 06 05 03"}, {"true or true and true or true", "06 06 06 03 04 06 04"},
	} {
		code := len(strings.Fields(c.code))
		size := hex.EncodeToString([]byte{byte(2*code + 11)}) + " 00 "
		wantBytes(t, "var x -1000 .. 1000; var y -1 .. -1; mode a { when "+c.atom+" stay; when not ("+c.atom+") to a; }",
			summed(bytesOf(t, head+size+c.code+" 02 01 00 00 "+c.code+" 05 02 02 00 01 00 00")))
	}
}

func TestCompileNumbersLeavesAsTheyStand(t *testing.T) {
	text := "mode a { mode b { mode c { when true to e; } default mode d { when true to b; } } default mode e { mode f { when true to a; } default mode g { when true stay; } } }"
	wantCompiled(t, text)
	got, _ := Compile(text)
	if im, _ := seeImage(got); strings.Join(im.names, "") != "cdfg" || im.first != 3 {
		t.Errorf("leaves %q, at first %d", im.names, im.first)
	}
}

func TestCompiledExampleGoesItsWay(t *testing.T) {
	image, _ := Compile(example)
	im, wrong := seeImage(image)
	if wrong != "" {
		t.Fatal(wrong)
	}
	leaf, before, way := im.names[im.first], 5, []string{}
	for _, now := range []int{5, 5, 25, 30, 5, 5, 110} {
		leaf = im.next(leaf, []int{before}, []int{now})
		before = now
		way = append(way, leaf)
	}
	if want := "slow fast fast off off slow off"; strings.Join(way, " ") != want {
		t.Errorf("the example goes to %v, want %s", way, want)
	}
}

func wantRight(t *testing.T, texts ...string) {
	t.Helper()
	for _, text := range texts {
		if got := wantCompiled(t, text); got != api.OK {
			t.Errorf("Compile(%q): fault %d", text, got)
		}
	}
}

// wantOpen asks for a fault whose case is in a leaf and, of the first variable, has these numbers.
func wantOpen(t *testing.T, code api.Errno, leaf string, before, now int, text string) {
	t.Helper()
	wantCompiled(t, text)
	if _, f := Compile(text); f.Code != code || f.Mode != leaf || f.Before[0] != before || f.Now[0] != now {
		t.Errorf("Compile(%q): %+v, want %d in %s with %d and %d", text, f, code, leaf, before, now)
	}
}

func TestCompileRightTables(t *testing.T) {
	wantRight(t, example, examplePrinted, "mode a { when true stay; }", "mode a { when not not true to a; }",
		"var x 0 .. 9; mode a { when x < 5 stay; when x >= 5 to a; }",
		"var x 5 .. 5; mode a { when x == 5 stay; when x != 5 stay; when was x != 5 to a; }",
		"var x 0 .. 9; mode a { when x < 5 and was x < 5 stay; when x >= 5 and was x < 5 stay; when not (was x <= 4) stay; }")
}

func TestCompileShowsTheOneCase(t *testing.T) {
	const head = "var x -9 .. 9; mode a { "
	wantOpen(t, api.ErrGap, "a", 3, 7, head+"when not (was x == 3 and x == 7) stay; }")
	wantOpen(t, api.ErrGap, "a", 7, 3, head+"when not (x == 3 and was x == 7) stay; }")
	wantOpen(t, api.ErrOverlap, "a", 3, 7, head+"when true stay; when x == 7 and was x == 3 stay; }")
	wantOpen(t, api.ErrOverlap, "a", -2, 4, head+"when x <= 4 and was x < -1 to a; when x > 3 and was x >= -2 stay; when x < 4 and was x >= -1 stay; when x > 4 stay; }")
	wantOpen(t, api.ErrGap, "a", -9, -8, head+"when x == -9 stay; }")
	wantOpen(t, api.ErrGap, "a", -9, 4, head+"when x < 3 stay; when x == 3 stay; }")
	wantOpen(t, api.ErrGap, "a", 9, -9, head+"when was x < 8 stay; when was x == 8 stay; }")
	wantOpen(t, api.ErrOverlap, "a", -8, -9, head+"when true stay; when not was x == -9 stay; }")
	wantOpen(t, api.ErrGap, "a", -9, -9, head+"when x > -9 stay; when x <= -9 and was x != -9 stay; }")
	wantOpen(t, api.ErrGap, "a", 9, 9, head+"when x < 9 stay; when x >= 9 and was x != 9 stay; }")
}

func TestCompileAsksEachEdgeOfEachNumber(t *testing.T) {
	const head = "var x -3 .. 2; var y 5 .. 5; var z -1000 .. 1000; mode a { "
	low, high := []int{-3, 5, -1000}, []int{2, 5, 1000}
	for i, name := range []string{"x", "y", "z"} {
		for _, was := range []string{"", "was "} {
			for _, edge := range []int{low[i], high[i]} {
				atom := was + name + " # " + strconv.Itoa(edge)
				for code, rows := range map[api.Errno]string{
					api.ErrGap:     "when " + strings.Replace(atom, "#", "!=", 1) + " stay; }",
					api.ErrOverlap: "when true stay; when " + strings.Replace(atom, "#", "==", 1) + " to a; }",
				} {
					_, f := Compile(head + rows)
					numbers := append(slices.Clone(f.Before), f.Now...)
					at := i
					if was == "" {
						at += 3
					}
					if f.Code != code || f.Mode != "a" || len(numbers) != 6 || numbers[at] != edge {
						t.Errorf("Compile(%q): %+v, want %d with %d", head+rows, f, code, edge)
					}
				}
			}
		}
	}
}

func TestCompileAsksNothingBeyondTheEdges(t *testing.T) {
	for _, atom := range []string{"x == -4", "x == 3", "was x == -4", "was x == 3", "x < -3", "x > 2", "was x < -3", "was x > 2", "x <= -4", "x >= 3", "x == 1000", "x == -1000"} {
		wantRight(t, "var x -3 .. 2; mode a { when true stay; when "+atom+" to a; }", "var x -3 .. 2; mode a { when not "+atom+" stay; }")
	}
}

func TestCompileOuterModesDecideFirst(t *testing.T) {
	wantRight(t, "mode a { when true stay; default mode b { } mode c { when true stay; when true stay; } }",
		"mode a { default mode b { when true to a; default mode c { } mode d { when true stay; when true to a; } } }",
		"var x 0 .. 9; mode a { when x < 5 to c; default mode b { when x >= 5 stay; default mode c { } } mode d { when x > 2 stay; when x < 3 and was x == 0 and x > 4 to a; when x < 3 stay; } }")
	wantOpen(t, api.ErrOverlap, "c", 0, 5, "var x 0 .. 9; mode a { when x < 5 stay; default mode b { when x >= 5 stay; } mode c { when x >= 2 stay; when x <= 5 to a; } }")
	wantOpen(t, api.ErrOverlap, "b", 0, 0, "var x 0 .. 9; mode a { when x < 5 stay; when x < 1 to b; default mode b { when true stay; } }")
	wantOpen(t, api.ErrGap, "c", 0, 4, "var x 0 .. 9; mode a { when x < 4 stay; default mode b { when true stay; } mode c { when x < 4 or x > 4 stay; } }")
}

func TestCompileTellsAnOverlapAheadOfAGap(t *testing.T) {
	wantOpen(t, api.ErrOverlap, "c", 0, 9, "var x 0 .. 9; mode a { default mode b { } mode c { when x == 9 stay; when x == 9 stay; } }")
	wantOpen(t, api.ErrOverlap, "a", 0, 9, "var x 0 .. 9; mode a { when x == 9 stay; when x == 9 stay; }")
	wantOpen(t, api.ErrOverlap, "b", 0, 0, "var x 0 .. 9; mode a { default mode b { when true stay; when true stay; } mode c { } }")
}

func TestCompileOfNoVariables(t *testing.T) {
	for text, want := range map[string]api.Fault{
		"mode a { }":                                               {Code: api.ErrGap, Mode: "a"},
		"mode a { when not true stay; }":                           {Code: api.ErrGap, Mode: "a"},
		"mode a { when true stay; when true to a; }":               {Code: api.ErrOverlap, Mode: "a"},
		"mode a { default mode b { } }":                            {Code: api.ErrGap, Mode: "b"},
		"mode a { mode b { when true stay; } default mode c { } }": {Code: api.ErrGap, Mode: "c"},
	} {
		got, f := Compile(text)
		if got != "" || f.Code != want.Code || f.Mode != want.Mode || f.Line != 0 || f.Before == nil || f.Now == nil || len(f.Before)+len(f.Now) != 0 {
			t.Errorf("Compile(%q) = %x, %+v", text, got, f)
		}
	}
}

func TestCompileTellsOtherFaultsAsPrintDoes(t *testing.T) {
	for _, text := range []string{"", "mode a {\nwhen true to b; }", "mode a { mode b { } }", strings.Repeat(" ", 3001), "var x 0 .. 1;\nmode a { when x < 2000 stay; }",
		"mode a {\nmode a { } }", "mode a {\n\nwhen y < 1 stay; }", "mode abcdefghi { }", "var x 5 .. 4; mode a { }", "mode a { when true stay; when true stay; when\ntrue to b; }"} {
		_, want := Print(text)
		if got, f := Compile(text); got != "" || want.Code == api.OK || !isFault(f, want.Code, want.Line) {
			t.Errorf("Compile(%.50q) = %x, %+v, want %+v", text, got, f, want)
		}
	}
}

// greatHead has as great numbers as there can be.
const greatHead = "var a -1000..1000;var b -1000..1000;var c -1000..1000;mode top{"

// greatTail makes the rest of MaxModes modes, all leaves without rows.
var greatTail = "default mode m{}" + number(10, "mode n#{}") + "}"

func TestCompileFindsOneCaseAmongAllThatCanBe(t *testing.T) {
	const one = "a == 999 and b == -999 and c != 1 and c != 0 and c >= -1 and c <= 1 and was a == -1000 and was b == 1000"
	for code, rows := range map[api.Errno]string{
		api.ErrGap:     "when not (" + one + ") stay;",
		api.ErrOverlap: "when true stay; when " + one + " to top;",
	} {
		got, f := Compile(greatHead + rows + greatTail)
		if got != "" || f.Code != code || f.Mode == "" || !slices.Equal(f.Now, []int{999, -999, -1}) || len(f.Before) != 3 || f.Before[0] != -1000 || f.Before[1] != 1000 {
			t.Errorf("Compile(%q) = %x, %+v, want %d", rows, got, f, code)
		}
	}
	const each = "a == 1 or b == 1 or c == 1 or was a == 1 or was b == 1 or was c == 1 or a == 3 or was b == 3"
	if got, f := Compile(greatHead + "when " + each + " stay; when not (" + each + ") to n9;" + greatTail); got == "" || !isNoFault(f) {
		t.Errorf("Compile of eight atoms: %x, %+v", got, f)
	}
}

// TestCompileGreatImages: as many bytes of guards as a text may have, in as many programs as there may be.
func TestCompileGreatImages(t *testing.T) {
	for _, c := range []struct{ first, more string }{
		{"true ", "or a>1"}, {"true ", "or a!=1"}, {"true ", "or was a>=1"}, {"not a<1or a<1", "or a<1"}, {"true ", "or(a>1)"}, {"true ", "or not a>1"}, {"true ", "and true "},
		{strings.Repeat("not not ", 330) + "true ", "or a>1"},
	} {
		room := api.MaxText - len(greatHead) - len("when "+c.first+" stay;") - len(greatTail)
		text := greatHead + "when " + c.first + strings.Repeat(c.more, max(0, room/len(c.more))) + " stay;" + greatTail
		got, f := Compile(text)
		if got == "" || len(got) > api.MaxImage || !isNoFault(f) || len(text) > api.MaxText {
			t.Fatalf("Compile of %d bytes with %q: %d bytes, %+v", len(text), c.more, len(got), f)
		}
		t.Logf("%d bytes with %q: an image of %d", len(text), c.more, len(got))
		im := wantImage(t, text, judgeOf(text), got)
		for i, program := range im.programs {
			if len(program) > len(text) || im.next(im.names[i], []int{0, 0, 0}, []int{0, 0, 0}) != im.names[i] {
				t.Errorf("of %q the program of %s: %d bytes", c.more, im.names[i], len(program))
			}
		}
	}
}

// TestCompileDeepGuards: what stands in the most parentheses there may be, each with an or and an and ahead.
func TestCompileDeepGuards(t *testing.T) {
	deep := func(n int, word string) string {
		guard := "x < 0 or x > 0 and was x == 1"
		for range n {
			guard = "x < 0 or x > 0 and " + word + "(was x == 1 or x == 2 and " + guard + ")"
		}
		return guard
	}
	for _, word := range []string{"", "not ", "not not not "} {
		wantRight(t, "var x -2 .. 2; mode a { when "+deep(6, word)+" to c; default mode b { when true to c; } mode c { when true to b; } }",
			"var x -2 .. 2; mode a { when "+deep(5, word)+" to a; when not ("+deep(5, word)+") stay; }")
	}
	wantRight(t, "mode a { when "+strings.Repeat("not ", 700)+"true stay; }", "mode a { when "+strings.Repeat("(not ", 6)+"true"+strings.Repeat(")", 6)+" stay; }")
}

func TestCompileAtTheLimits(t *testing.T) {
	never := func(n int) string { return number(n, "when not true to a;") }
	one := func(rows string) string { return "var x 0 .. 6; mode a { " + rows + " }" }
	split := number(7, "when x == # and was x < 3 stay; when x == # and not was x < 3 to a;")
	wantRight(t, one(never(23)+"when true stay;"), one(split+never(10)))
	wantOpen(t, api.ErrOverlap, "a", 0, 0, one(never(22)+"when true stay; when true to a;"))
	wantOpen(t, api.ErrGap, "a", 0, 0, one(never(24)))
	wantRight(t, "var x 0 .. 9; mode a {"+number(5, "default mode m# { when x == # to a;")+"when x > 4 stay;"+strings.Repeat("}", 6))
	many := "var x 0 .. 9; mode a { when x < 3 to l8; when x > 6 to l0; default mode d { when true to a; when not true stay; }" +
		number(9, "mode l# { when x < 5 to d; when not x < 5 stay; }") + "mode l9 { when true to l9; when not true stay; } }"
	wantRight(t, many)
	wantOpen(t, api.ErrOverlap, "l9", 0, 3, strings.Replace(many, "not true stay; } }", "x == 3 to d; } }", 1))
	wantOpen(t, api.ErrGap, "l9", 0, 5, strings.Replace(many, "when true to l9", "when not (x == 5 or x == 6) to l9", 1))
}

func TestCompileMayTakeMoreThanItsPrint(t *testing.T) {
	text := "var x 0..1;mode a{when true " + strings.Repeat("or(x<1)", 400) + "stay;}"
	if printed, _ := Print(text); len(printed) <= api.MaxText {
		t.Fatalf("only %d bytes", len(printed))
	}
	wantRight(t, text)
}

func TestCompileHangsOnItsTextAlone(t *testing.T) {
	texts := []string{example, strings.Replace(example, ">= 20", ">= 15", 1), "mode a { }", "mode a { when true stay; }", "mode a {"}
	type answer struct {
		image string
		fault api.Fault
	}
	var want []answer
	for _, text := range texts {
		image, f := Compile(text)
		want = append(want, answer{image, f})
	}
	var group sync.WaitGroup
	for range 8 {
		group.Go(func() {
			for i := range 100 {
				w := want[i%len(want)]
				image, f := Compile(texts[i%len(texts)])
				if image != w.image || f.Code != w.fault.Code || f.Mode != w.fault.Mode || !slices.Equal(f.Before, w.fault.Before) || !slices.Equal(f.Now, w.fault.Now) {
					t.Errorf("Compile(%q) = %x, %+v, then %x, %+v", texts[i%len(texts)], w.image, w.fault, image, f)
				}
			}
		})
	}
	group.Wait()
}

func TestCompileAnswersNewMemory(t *testing.T) {
	text := []byte(example)
	handed := unsafe.String(&text[0], len(text))
	image, _ := Compile(handed)
	again, _ := Compile(handed)
	if string(text) != example {
		t.Errorf("Compile changed its text: %q", text)
	}
	want := strings.Clone(image)
	clear(text)
	if image != want || again != want || unsafe.StringData(image) == unsafe.StringData(again) {
		t.Errorf("images share memory with the text or one another: %x", image)
	}
}

func TestCompileShowsCasesInNewMemory(t *testing.T) {
	text := []byte(strings.Replace(example, ">= 20", ">= 15", 1))
	handed := unsafe.String(&text[0], len(text))
	_, f := Compile(handed)
	_, g := Compile(handed)
	clear(text)
	if f.Mode != "slow" || g.Mode != "slow" || unsafe.StringData(f.Mode) == unsafe.StringData(g.Mode) {
		t.Errorf("modes %q and %q share memory with the text or one another", f.Mode, g.Mode)
	}
	lists := [][]int{f.Before, f.Now, g.Before, g.Now}
	for i, list := range lists {
		for j := range list[:cap(list)] {
			list[:cap(list)][j] = 2000 + i
		}
	}
	for i, list := range lists {
		if len(list) != 1 || slices.ContainsFunc(list[:cap(list)], func(n int) bool { return n != 2000+i }) {
			t.Errorf("lists share memory: %v", lists)
		}
	}
}
