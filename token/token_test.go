package token

import (
	"slices"
	"strings"
	"testing"

	"helm/api"
)

func texts(tokens []Token) []string {
	var list []string
	for _, t := range tokens {
		list = append(list, t.Text)
	}
	return list
}

func TestScanTakesTheLongest(t *testing.T) {
	for _, c := range []struct{ text, want string }{
		{"when whenx when1 1when", "when|whenx|when1|1|when|"},
		{"x<=1==2!=3>=4<5>6", "x|<=|1|==|2|!=|3|>=|4|<|5|>|6|"},
		{"1..2 .. -3-4", "1|..|2|..|-3|-4|"},
		{"<<=>>===", "<|<=|>|>=|==|"},
		{"x<-1", "x|<|-1|"},
		{"{(;)}", "{|(|;|)|}|"},
		{"a#b c\nd#", "a|d|"},
		{"0 00 007 -0 -000 -07 9999 -9999", "0|0|7|0|0|-7|9999|-9999|"},
		{"abcdefgh a2345678", "abcdefgh|a2345678|"},
		{" \t\n", ""},
		{"# \x00\xff\r$ #\n", ""},
	} {
		tokens, fault := Scan(c.text)
		if got := strings.Join(texts(tokens), "|"); got != c.want || fault.Code != api.OK {
			t.Errorf("Scan(%q) = %q, %+v, want %q", c.text, got, fault, c.want)
		}
	}
}

func TestScanTellsKindValueAndLine(t *testing.T) {
	tokens, _ := Scan("mode\nmodes # 1\n-012\n\n<")
	want := []Token{{Mark, "mode", 0, 1}, {Name, "modes", 0, 2}, {Int, "-12", -12, 3}, {Mark, "<", 0, 5}, {End, "", 0, 5}}
	if !slices.Equal(tokens, want) {
		t.Errorf("Scan = %+v, want %+v", tokens, want)
	}
}

func TestScanKnowsTheWords(t *testing.T) {
	for _, word := range strings.Fields("var mode default when to stay and or not was true") {
		tokens, _ := Scan(word + " " + word + "s")
		if !tokens[0].Is(word) || tokens[1].Kind != Name {
			t.Errorf("Scan of %q and %qs = %+v", word, word, tokens)
		}
	}
}

func TestScanRefusesWhatBeginsNoToken(t *testing.T) {
	for _, text := range []string{
		".", "...", "=", "===", "<==", "!", "! =", "-", "--1", "- 1", "-a", "+1", "A", "_", "a_", "aB", "\r", "\x00", "\x7f", "\x80", "é", "\xff",
		"abcdefghi", "whenwhenw", "a12345678", "12345", "00000", "-12345", ",", ":", "&", "|", "[", "\"", "'", "/", "*", "\v", "\f",
	} {
		for lines := range 3 {
			full := strings.Repeat("a # .\n", lines) + "mode " + text + "\n.\n"
			tokens, fault := Scan(full)
			if tokens != nil || fault.Code != api.ErrSyntax || fault.Line != lines+1 {
				t.Errorf("Scan(%q) = %v, %+v, want a fault in line %d", full, texts(tokens), fault, lines+1)
			}
		}
	}
}

func TestScanTakesNoOtherByte(t *testing.T) {
	const first = "abcdefghijklmnopqrstuvwxyz0123456789{}();<># \t\n"
	for c := range 256 {
		text := string([]byte{byte(c)})
		_, fault := Scan(text)
		if taken := fault.Code == api.OK; taken != strings.Contains(first, text) {
			t.Errorf("Scan(%q): %+v", text, fault)
		}
	}
}

func TestJoin(t *testing.T) {
	for _, c := range []struct{ text, want string }{
		{"", ""},
		{"a b", "a b"},
		{"var x 0 .. 1 ;", "var x 0..1;\n"},
		{"{ } ; }", "{\n}\n;\n}\n"},
		{"not ( ( x < 1 ) ) and", "not ((x < 1)) and"},
	} {
		tokens, _ := Scan(c.text)
		if got := Join(tokens); got != c.want {
			t.Errorf("Join of %q = %q, want %q", c.text, got, c.want)
		}
	}
}
