package helm

import (
	"strconv"
	"strings"
	"sync"
	"testing"
	"unsafe"

	"helm/api"
)

const example = `var heat -20 .. 120;
mode top {
  when heat > 100 to off;
  default mode off { when heat < 10 and was heat < 10 to on; when not (heat < 10 and was heat < 10) stay; }
  mode on {
    when heat >= 30 to off;
    default mode slow { when heat >= 20 and heat < 30 stay; when heat < 20 to fast; }
    mode fast { when heat < 30 stay; }
  }
}
`

const examplePrinted = `var heat -20..120;
mode top {
when heat > 100 to off;
default mode off {
when heat < 10 and was heat < 10 to on;
when not (heat < 10 and was heat < 10) stay;
}
mode on {
when heat >= 30 to off;
default mode slow {
when heat >= 20 and heat < 30 stay;
when heat < 20 to fast;
}
mode fast {
when heat < 30 stay;
}
}
}
`

func isNoFault(f api.Fault) bool { return isFault(f, api.OK, 0) }

func isFault(f api.Fault, code api.Errno, line int) bool {
	return f.Code == code && f.Line == line && f.Mode == "" && f.Before == nil && f.Now == nil
}

func wantPrinted(t *testing.T, text, want string) {
	t.Helper()
	if got, f := Print(text); got != want || !isNoFault(f) {
		t.Errorf("Print(%.200q) = %q, %+v, want %q", text, got, f, want)
	}
}

func wantTaken(t *testing.T, texts ...string) {
	t.Helper()
	for _, text := range texts {
		got, f := Print(text)
		if got == "" || !isNoFault(f) {
			t.Errorf("Print(%.200q) = %q, %+v, want a table", text, got, f)
		}
		if len(got) <= api.MaxText {
			wantPrinted(t, got, got)
		}
	}
}

func wantFault(t *testing.T, code api.Errno, line int, texts ...string) {
	t.Helper()
	for _, text := range texts {
		if got, f := Print(text); got != "" || !isFault(f, code, line) {
			t.Errorf("Print(%.200q) = %q, %+v, want fault %d in line %d", text, got, f, code, line)
		}
	}
}

func TestPrintLaysOut(t *testing.T) {
	for _, c := range []struct{ text, want string }{
		{example, examplePrinted},
		{"mode a{}", "mode a {\n}\n"},
		{"\n\t # x\nmode#{\na#\n{}#", "mode a {\n}\n"},
		{"var x -0..007;var y -01..-00;mode a{}", "var x 0..7;\nvar y -1..0;\nmode a {\n}\n"},
		{"var x 0..0;mode a{when((x<1or not(x>=02)))and not not true to a;when true stay;}", "var x 0..0;\nmode a {\nwhen ((x < 1 or not (x >= 2))) and not not true to a;\nwhen true stay;\n}\n"},
		{"mode a{default mode b{}mode c{when(true)stay;}}", "mode a {\ndefault mode b {\n}\nmode c {\nwhen (true) stay;\n}\n}\n"},
	} {
		wantPrinted(t, c.text, c.want)
		wantPrinted(t, c.want, c.want)
	}
}

func TestPrintTakesOverlapsAndGaps(t *testing.T) {
	wantTaken(t, "mode a { }", "mode a { when true stay; when true to a; }",
		strings.Replace(example, "when heat < 20 to fast;", "", 1), strings.Replace(example, ">= 20", ">= 15", 1))
}

func TestPrintTakesOneNameForAVariableAndAMode(t *testing.T) {
	wantTaken(t, "var a 0 .. 1; mode a { when a == 0 to a; }")
}

func TestPrintMayBeLongerThanATable(t *testing.T) {
	guard := "x<1" + strings.Repeat("or(x<1)", 300)
	got, f := Print("var x 0..1;mode a{when " + guard + " stay;}")
	want := "var x 0..1;\nmode a {\nwhen x < 1" + strings.Repeat(" or (x < 1)", 300) + " stay;\n}\n"
	if got != want || !isNoFault(f) || len(got) <= api.MaxText {
		t.Errorf("Print of a close text: %d bytes, %+v, want %d", len(got), f, len(want))
	}
	wantFault(t, api.ErrLimit, 0, got)
}

func TestPrintTakesNestsOfAnyDepthAsGrammar(t *testing.T) {
	wantTaken(t, "mode a { when "+strings.Repeat("not ", 740)+"true stay; }")
	wantFault(t, api.ErrLimit, 1, "mode a{when "+strings.Repeat("(", 1400)+"true"+strings.Repeat(")", 1400)+"stay;}")
	wantFault(t, api.ErrSyntax, 1, "mode a{when "+strings.Repeat("(", 2900), strings.Repeat("mode a{", 400))
}

// number writes n pieces with their numbers, from 0 on, where they have a #.
func number(n int, piece string) string {
	var b strings.Builder
	for i := range n {
		b.WriteString(strings.ReplaceAll(piece, "#", strconv.Itoa(i)))
	}
	return b.String()
}

func TestLimitOfText(t *testing.T) {
	room := func(n int) string { return "mode a { }" + strings.Repeat("\n", n-10) }
	wantTaken(t, room(api.MaxText))
	wantFault(t, api.ErrLimit, 0, room(api.MaxText+1), strings.Repeat("?", api.MaxText+1), strings.Repeat("\x00", 1<<20))
	wantFault(t, api.ErrSyntax, 1, strings.Repeat("?", api.MaxText))
	wantFault(t, api.ErrSyntax, api.MaxText+1, strings.Repeat("\n", api.MaxText))
}

func TestLimitOfVariables(t *testing.T) {
	vars := func(n int) string { return number(n, "var x# 0 .. 1;\n") + "mode a { }" }
	wantTaken(t, vars(0), vars(api.MaxVars))
	wantFault(t, api.ErrLimit, 4, vars(api.MaxVars+1), vars(api.MaxVars+2))
	wantFault(t, api.ErrLimit, 5, number(3, "var x# 0 .. 1;\n")+"var\nx0 9999 .. 1; mode a { }")
}

func TestLimitOfModes(t *testing.T) {
	modes := func(n int) string { return "mode a { default mode b { }" + number(n-2, "\nmode m# { }") + "}" }
	wantTaken(t, modes(api.MaxModes))
	wantFault(t, api.ErrLimit, 12, modes(api.MaxModes+1), strings.Replace(modes(api.MaxModes+2), "m10", "m1", 1))
}

func TestLimitOfDepthOfModes(t *testing.T) {
	deep := func(n int) string { return "mode a {" + number(n-1, "\ndefault mode m# {") + strings.Repeat("}", n) }
	wantTaken(t, deep(api.MaxDepth), "mode a { default mode b { default mode c { } } mode d { default mode e { default mode f { default mode g { } } } } }")
	wantFault(t, api.ErrLimit, 7, deep(api.MaxDepth+1), strings.Replace(deep(api.MaxDepth+2), "m5", "m4", 1))
}

func TestLimitOfRows(t *testing.T) {
	rows := func(n, m int) string {
		return "mode a {" + number(n, "\nwhen true stay;") + "default mode b {" + number(m, "\nwhen true stay;") + "} }"
	}
	wantTaken(t, rows(24, 0), rows(0, 24), rows(11, 13))
	wantFault(t, api.ErrLimit, 26, rows(25, 0), rows(0, 25), rows(12, 13), rows(24, 3))
	wantFault(t, api.ErrLimit, 26, strings.Replace(rows(24, 0), "} }", "\nwhen x < 9999 to c; } }", 1))
}

func TestLimitOfParentheses(t *testing.T) {
	deep := func(n int) string {
		return strings.Repeat("\n(", n) + "true" + strings.Repeat(")", n)
	}
	row := func(guard string) string { return "mode a { when " + guard + " stay; when (true) stay; }" }
	wantTaken(t, row(deep(6)), row(deep(6)+" or "+deep(6)), row("not not "+strings.ReplaceAll(deep(6), "(", "not (")), row("((true) and (true) and (true)) or (true) or (true) or (true) or (true)"))
	wantFault(t, api.ErrLimit, 8, row(deep(7)), row(deep(8)), strings.Replace(row(deep(7)), "true", "x < 9999", 1))
	wantFault(t, api.ErrLimit, 9, row("((true)) or "+strings.Replace(deep(7), "(", "\n(", 1)))
}

func TestLimitOfAtoms(t *testing.T) {
	table := func(rows string) string {
		return "var x 0 .. 9; var y 0 .. 9; mode a { " + rows + " default mode b { when\nx < 0 stay; } }"
	}
	atoms := number(8, "when x < # stay; when true and x < 00# stay;")
	wantTaken(t, table(atoms), table(strings.ReplaceAll(atoms, "< 0 ", "< -0 ")))
	for _, ninth := range []string{"was x < 0", "x <= 0", "x == 0", "x != 0", "x >= 0", "x > 0", "y < 0", "x < -1", "x < 8"} {
		_, afterWas, hasWas := strings.Cut(ninth, "was ")
		if !hasWas {
			afterWas = ninth
		}
		place := strings.TrimSuffix(ninth, afterWas) + "\n" + afterWas
		wantFault(t, api.ErrLimit, 2, table(atoms+"when "+place+" stay;"))
		wantTaken(t, table(number(7, "when x < # stay;")+"when "+ninth+" stay;"))
	}
	wantFault(t, api.ErrLimit, 2, table(atoms+"when\nz <\n9999 stay;"))
}

func TestLimitOfBounds(t *testing.T) {
	wantTaken(t, "var x -1000 .. 1000; mode a { when x < 1000 or x < -1000 stay; }", "var x 1000 .. 1000; var y -1000 .. -1000; mode a { }")
	wantFault(t, api.ErrRange, 2, "var x\n-1001 .. 0; mode a { }", "var x\n1001 .. 0; mode a { }", "var x 0 ..\n1001; mode a { }", "var x 0 ..\n-1001; mode a { }",
		"var x 0 .. 1; mode a { when x ==\n1001 stay; }", "var x 0 .. 1; mode a { when was x ==\n-1001 stay; }", "var x 0 .. 1; mode a { when x ==\n9999 stay; }")
}

func TestLimitOfNamesAndDigits(t *testing.T) {
	wantTaken(t, "var abcdefgh 0 .. 1; mode a2345678 { when abcdefgh < 0001 to a2345678; }")
	wantFault(t, api.ErrSyntax, 2, "mode\nabcdefghi { }", "var\nabcdefghi 0 .. 1; mode a { }", "mode a { when true to\nabcdefghi; }", "var x\n00000 .. 1; mode a { }", "var x\n-00001 .. 1; mode a { }")
}

func TestSyntaxTellsTheFirstTokenThatCannotStand(t *testing.T) {
	for _, text := range []string{
		"@}", "@default mode a { }", "@a", "@when true stay;", "@;",
		"var @mode", "var x @;", "var x 0 @1", "var x 0 .. @x", "var x 0 .. 1 @mode a { }", "var x @.. 1;", "var x 0 .. 1; @}",
		"mode @{ }", "mode @1 { }", "mode @to { }", "mode a @}", "mode a { @var x 0 .. 1; }", "mode a { @a }", "mode a { } @mode b { }", "mode a { } @}", "mode a { } @var x 0 .. 1;",
		"mode a { default @}", "mode a { default @when true stay; }", "mode a { default @default mode b { } }", "mode a { mode b { } @when true stay; }", "mode a { @to a; }",
		"mode a { when @stay; }", "mode a { when @and true stay; }", "mode a { when @1 < x stay; }", "mode a { when (@stay; }", "mode a { when (@) stay; }", "mode a { when true @) stay; }", "mode a { when (true @stay; }", "mode a { when (true @to b; }", "mode a { when (true)@) stay; }",
		"mode a { when was @true stay; }", "mode a { when was @was x < 1 stay; }", "mode a { when was @(x < 1) stay; }", "mode a { when was @not x < 1 stay; }",
		"mode a { when x @stay; }", "mode a { when x @and x < 1 stay; }", "mode a { when x @.. 1 stay; }", "mode a { when x < @y stay; }", "mode a { when x < @= 1 stay; }", "mode a { when x < @(1) stay; }", "mode a { when x < @stay; }", "mode a { when x < 1 @< 2 stay; }",
		"mode a { when true @true stay; }", "mode a { when true @true; }", "mode a { when true @not true stay; }", "mode a { when true and @or true stay; }", "mode a { when true or @stay; }", "mode a { when not @stay; }", "mode a { when not @and true stay; }",
		"mode a { when true @; }", "mode a { when true to @; }", "mode a { when true to @stay; }", "mode a { when true to @1; }", "mode a { when true stay @}", "mode a { when true to b @}", "mode a { when true stay @to b; }", "mode a { when true stay; @; }", "mode a { when true stay; @stay; }",
	} {
		wantFault(t, api.ErrSyntax, 3, strings.Replace(text, "@", " \n#}\n", 1)+"\n\n}\nmode 1")
	}
}

// spaced sets blanks around the signs that may stand close to other tokens.
func spaced(text string) string {
	return strings.NewReplacer(";", " ; ", "(", " ( ", ")", " ) ").Replace(text)
}

func TestSyntaxOfATextThatEndsTooEarly(t *testing.T) {
	text := ""
	for _, word := range strings.Fields(spaced(example)) {
		lines := 1 + strings.Count(text, "\n")
		wantFault(t, api.ErrSyntax, lines, text, text+" \t", text+"# }")
		wantFault(t, api.ErrSyntax, lines+2, text+"\n # }\n\t")
		text += word + "\n"[:len(word)%2] + " "
	}
	wantTaken(t, text)
	wantFault(t, api.ErrSyntax, 1, "", " ", "#", "# mode a { }")
	wantFault(t, api.ErrSyntax, 2, "\n", "#\n", "mode a {\n# }")
}

func TestNames(t *testing.T) {
	wantFault(t, api.ErrName, 2,
		"var x 0 .. 1; var\nx 9999 .. 1; mode a { }",
		"mode a { default mode\na { } }",
		"mode a { default mode b { } mode c { default mode\nb { when y < 1 stay; } } }",
		"mode a { when\nx < 9999 stay; }",
		"mode a { when was\nx\n<\n9999 stay; }",
		"mode a { when was\na < 1 stay; }",
		"var x 0 .. 1; mode a { when x < 1 and not (true or\ny < 1) stay; }",
		"mode a { when true to\nb; }",
		"var x 0 .. 1; mode a { when true to\nx; }",
		"mode a { when true to a; default mode b { when true to\nd; } mode c { when true to\ne; } }")
	wantTaken(t, "mode a { when true to d; default mode b { when true to b; when true to a; } mode c { default mode d { when true to c; } } }")
}

func TestRanges(t *testing.T) {
	wantTaken(t, "var x 5 .. 5; var y -5 .. -4; mode a { }")
	wantFault(t, api.ErrRange, 2, "var x 5 ..\n4; mode a { }", "var x -4 ..\n-5; mode a { }", "var x 0 ..\n-1; mode a { }")
}

func TestTree(t *testing.T) {
	wantFault(t, api.ErrTree, 2,
		"mode\na { mode b { } }",
		"mode\na { default mode b { } default mode c { } }",
		"mode\na { default mode b { } mode c { } default mode d { } mode e { } }",
		"mode\na { mode b { mode\nc { } } }",
		"mode a { default mode\nb { mode c { mode d { } } } }",
		"mode a { mode\nb { mode c { } } default mode\nd { mode e { } } }")
	wantTaken(t, "mode a { mode b { } default mode c { } mode d { } }")
}

func TestOrderAmongFaults(t *testing.T) {
	const sense = "\nvar x 0 .. 9999; mode a {"
	wantFault(t, api.ErrSyntax, 5, sense+" when true to b;\nmode a { }\n} }\n$")
	wantFault(t, api.ErrSyntax, 4, sense+" when true to b;\nmode a { }\n} }\n")
	wantFault(t, api.ErrRange, 2, sense+" when true to b;\nmode a { }\n}")
	wantFault(t, api.ErrName, 3, "mode a {\nwhen true to b;\nmode a { } }")
	wantFault(t, api.ErrLimit, 3, "mode a { when true to b;\n\nwhen (((((((true))))))) stay; }")
	wantFault(t, api.ErrName, 3, "mode a {\nmode b {\nwhen true to c; } }")
	wantFault(t, api.ErrTree, 1, "mode a {\nmode b {\nwhen true to a; } }")
	wantFault(t, api.ErrRange, 2, "var x 2 ..\n1; var x 0 .. 1; var y 0 .. 1; var z 0 .. 1; mode a { }")
	wantFault(t, api.ErrName, 2, "mode a { when\ny < 1 and (((((((true))))))) stay; }")
	wantFault(t, api.ErrLimit, 2, "mode a { when ((((((\n(y < 9999))))))) stay; }")
	wantFault(t, api.ErrRange, 2, "var x 0 .. 1; mode a { when x <\n1001 or\ny < 1 stay; }")
}

func TestPrintHangsOnItsTextAlone(t *testing.T) {
	wrong := []string{"", "mode a {", "var x 5 .. 4; mode a { }", "mode a { when true to b; }"}
	var group sync.WaitGroup
	for range 8 {
		group.Go(func() {
			for i := range 50 {
				wantPrinted(t, example, examplePrinted)
				if got, f := Print(wrong[i%len(wrong)]); got != "" || f.Code == api.OK {
					t.Errorf("Print(%q) = %q, %+v", wrong[i%len(wrong)], got, f)
				}
			}
		})
	}
	group.Wait()
}

func TestPrintAnswersNewMemory(t *testing.T) {
	text := []byte(examplePrinted)
	handed := unsafe.String(&text[0], len(text))
	got, _ := Print(handed)
	again, _ := Print(handed)
	if string(text) != examplePrinted {
		t.Errorf("Print changed its text: %q", text)
	}
	clear(text)
	if got != examplePrinted || again != examplePrinted {
		t.Errorf("what Print answered hangs on its text: %q", got)
	}
	if unsafe.StringData(got) == unsafe.StringData(again) {
		t.Errorf("two answers of Print share memory")
	}
}
