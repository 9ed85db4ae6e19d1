package tests

import (
	"fmt"
	"math/rand"
	"regexp"
	"strconv"
	"strings"
	"testing"

	"loop.example/heddle/impl"
)

// fixedKinds: the Kinds that are written in one way, with it, as the document's table has them.
var fixedKinds = map[int]string{
	10: "and", 11: "break", 12: "catch", 13: "const", 14: "defer", 15: "elif", 16: "else", 17: "false", 18: "fn", 19: "for", 20: "if",
	21: "in", 22: "let", 23: "next", 24: "nil", 25: "not", 26: "or", 27: "return", 28: "throw", 29: "true", 30: "try", 31: "while",
	5: ";", 7: "\n",
	40: "(", 41: ")", 42: "{", 43: "}", 44: "[", 45: "]", 46: ",", 47: "=", 48: ".", 49: "...", 50: "#",
	61: "+", 62: "-", 63: "*", 64: "/", 65: "//", 66: "%", 67: "&", 68: "|", 69: "~", 70: "<<", 71: ">>", 72: "..",
	73: "==", 74: "~=", 75: "<", 76: "<=", 77: ">", 78: ">=",
}

// kindOf: fixedKinds the other way round.
var kindOf = kindsBySpelling()

func kindsBySpelling() map[string]int {
	out := map[string]int{}
	for kind, text := range fixedKinds {
		out[text] = kind
	}
	return out
}

var (
	blankForm  = regexp.MustCompile(`^([ \t\r]|--[^\n]*)+`)
	nameForm   = regexp.MustCompile(`^[A-Za-z_][A-Za-z0-9_]*`)
	hexForm    = regexp.MustCompile(`^0x[0-9a-f]*`)
	numberForm = regexp.MustCompile(`^(0|[1-9][0-9]*)(\.[0-9]+)?(e[+-]?[0-9]+)?`)
	stringForm = regexp.MustCompile(`^"(\\[nt"\\]|\\x[0-9a-f]{2}|[^"\\\n])*"`)
	signForm   = regexp.MustCompile(`^(\.\.\.|\.\.|//|<<|>>|==|~=|<=|>=|[(){}\[\],=.#+\-*/%&|~<>;\n])`)
)

// plainToken: the token that a text begins with, by the forms above; its length 0 when there is none.
func plainToken(text string) (impl.Token, int) {
	if piece := nameForm.FindString(text); piece != "" {
		if kind := kindOf[piece]; kind != 0 {
			return impl.Token{Kind: kind}, len(piece)
		}
		return impl.Token{Kind: 1, Text: piece}, len(piece)
	}
	if piece := hexForm.FindString(text); piece != "" {
		n, err := strconv.ParseUint(piece[2:], 16, 64)
		if err != nil || len(piece) > 18 {
			return impl.Token{}, 0
		}
		return impl.Token{Kind: 2, Num: int64(n)}, len(piece)
	}
	if m := numberForm.FindStringSubmatch(text); m != nil {
		piece := m[0]
		if m[3] == "" && strings.HasPrefix(text[len(piece):], "e") {
			return impl.Token{}, 0
		}
		if n, err := strconv.ParseInt(piece, 10, 64); err == nil {
			return impl.Token{Kind: 2, Num: n}, len(piece)
		}
		return impl.Token{Kind: 3, Text: piece}, len(piece)
	}
	if piece := stringForm.FindString(text); piece != "" {
		return impl.Token{Kind: 4, Text: plainUnquoted(piece)}, len(piece)
	}
	piece := signForm.FindString(text)
	return impl.Token{Kind: kindOf[piece]}, len(piece)
}

func plainUnquoted(quoted string) string {
	var out []byte
	for s := quoted[1 : len(quoted)-1]; s != ""; {
		switch {
		case s[0] != '\\':
			out, s = append(out, s[0]), s[1:]
		case s[1] == 'x':
			n, _ := strconv.ParseUint(s[2:4], 16, 8)
			out, s = append(out, byte(n)), s[4:]
		default:
			out, s = append(out, strings.NewReplacer("n", "\n", "t", "\t").Replace(s[1:2])...), s[2:]
		}
	}
	return string(out)
}

// plainRow: the tokens of a text, by the forms above; false when it is no row of tokens.
func plainRow(text string) ([]impl.Token, bool) {
	var out []impl.Token
	for at := 0; at < len(text); {
		if piece := blankForm.FindString(text[at:]); piece != "" {
			at += len(piece)
			continue
		}
		t, size := plainToken(text[at:])
		if size == 0 {
			return nil, false
		}
		t.From, t.To, t.Line = at, at+size, 1+strings.Count(text[:at], "\n")
		out = append(out, t)
		at += size
	}
	return out, true
}

// plainAt: the place of the first byte such that no row begins with the bytes up to and with it, found by trying every end that a token may lack.
func plainAt(text string) int {
	for at := range len(text) {
		if !beginsRow(text[:at+1]) {
			return at
		}
	}
	return len(text)
}

func beginsRow(text string) bool {
	for _, end := range []string{"", `"`, `n"`, `0"`, `00"`, "0"} {
		if _, ok := plainRow(text + end); ok {
			return true
		}
	}
	return false
}

// checkScan holds Scan against the forms above.
func checkScan(t *testing.T, text string) {
	t.Helper()
	tokens, ok := plainRow(text)
	want := impl.Scanned{Ok: ok, Tokens: tokens}
	if !ok {
		want.At = plainAt(text)
	}
	checkScanned(t, text, want)
}

func checkScanned(t *testing.T, text string, want impl.Scanned) {
	t.Helper()
	got := impl.Scan(text)
	if got.Ok != want.Ok || got.At != want.At || len(got.Tokens) != len(want.Tokens) {
		t.Errorf("Scan(%.80q) is %v %d %s, not %v %d %s", text, got.Ok, got.At, shortly(got.Tokens), want.Ok, want.At, shortly(want.Tokens))
		return
	}
	for i := range got.Tokens {
		if got.Tokens[i] != want.Tokens[i] {
			t.Errorf("Scan(%.80q): token %d is %s, not %s", text, i, shortly(got.Tokens[i]), shortly(want.Tokens[i]))
		}
	}
}

// shortly: the beginning of what a value is told as.
func shortly(value any) string {
	told := fmt.Sprint(value)
	return told[:min(len(told), 300)]
}

// checkFault: a text that is no row of tokens, and where it ceases to be one.
func checkFault(t *testing.T, text string, at int) {
	t.Helper()
	checkScanned(t, text, impl.Scanned{At: at})
}

// checkAlone: a text that is one token.
func checkAlone(t *testing.T, text string, want impl.Token) {
	t.Helper()
	want.To, want.Line = len(text), 1
	checkScanned(t, text, impl.Scanned{Ok: true, Tokens: []impl.Token{want}})
}

// checkKinds: a text that is a row of tokens of these Kinds, each where the one ahead of it ends or behind blanks.
func checkKinds(t *testing.T, text string, kinds ...int) {
	t.Helper()
	s := impl.Scan(text)
	var got []int
	for _, x := range s.Tokens {
		got = append(got, x.Kind)
	}
	if !s.Ok || s.At != 0 || !sameInts(got, kinds) {
		t.Errorf("Scan(%.80q): %v %d, Kinds %v, not %v", text, s.Ok, s.At, got, kinds)
	}
}

func sameInts(a, b []int) bool {
	if len(a) != len(b) {
		return false
	}
	for i := range a {
		if a[i] != b[i] {
			return false
		}
	}
	return true
}

// someRows: texts by a fixed seed, of pieces that are tokens, pieces of tokens, blanks, and bytes that cannot stand.
func someRows(count int) []string {
	pieces := []string{
		"a", "Z9", "_", "if", "elif", "whil", "e", "x", "0", "1", "9", "00", "0x", "0xf", "0xffffffffffffffff", "0x11111111111111111", "12",
		"9223372036854775807", "9223372036854775808", "1.5", "1e5", "1e", "2.5e-7", "e+", "\"", "\"\"", "\"ab\"", "\\", "\\n", "\\x", "\\x4", "\\x41",
		"\\q", "\n", "\n\n", ";", "--", "-- r\n", "-", ".", "..", "...", "~", "=", "<", ">", "/", "|", "(", "{", "}", ",", "#", " ", "\t", "\r",
		"@", "?", "\x00", "\x80", "é", "\x7f", "G",
	}
	r := rand.New(rand.NewSource(2))
	var out []string
	for range count {
		var b strings.Builder
		for range 1 + r.Intn(7) {
			b.WriteString(pieces[r.Intn(len(pieces))])
		}
		out = append(out, b.String())
	}
	return out
}
