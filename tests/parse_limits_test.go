package tests

import (
	"fmt"
	"math/rand"
	"strings"
	"testing"
	"unsafe"

	"loop.example/heddle/impl"
)

// filled: a text with blanks behind it, of so many bytes.
func filled(text string, size int) string { return text + strings.Repeat(" ", size-len(text)) }

func TestParseLength(t *testing.T) {
	for _, text := range []string{"", "x = 1", "f()\n", "--"} {
		full := filled(text, impl.MaxText)
		p := impl.Parse(full)
		if last := len(p.Sheet.Forms) - 1; p.Code != 0 || p.Sheet.Forms[last].To != impl.MaxText {
			t.Errorf("%q, filled: code %d", text, p.Code)
		}
		checkNext(t, full, plainNext(text))
		checkTooLarge(t, text, full+" ")
		checkTooLarge(t, text, strings.Repeat("\n", impl.MaxText)+text+" ")
		checkNext(t, full+" ", nil)
	}
	for text, at := range map[string]int{"}": 0, "x = 1 2": 6, "f(": impl.MaxText, "x = \"": impl.MaxText, "@": 0, "x": impl.MaxText} {
		full := filled(text, impl.MaxText)
		checkStray(t, full, at)
		checkTooLarge(t, text, full+" ")
		checkNext(t, full+" ", nil)
	}
	checkStray(t, strings.Repeat(" ", impl.MaxText-1)+"@", impl.MaxText-1)
	checkStray(t, strings.Repeat(" ", impl.MaxText-1)+"x", impl.MaxText)
	checkTooLarge(t, "a fault behind the limit", strings.Repeat(" ", impl.MaxText)+"@")
	checkTooLarge(t, "a very long text", strings.Repeat("@", 3*impl.MaxText))
}

// blockTexts: blocks of so many empty blocks each.
func blockTexts(counts ...int) string {
	var out strings.Builder
	for _, count := range counts {
		out.WriteString("{" + strings.Repeat("{};", count) + "}\n")
	}
	return out.String()
}

func checkWhole(t *testing.T, what, text string, forms int) {
	t.Helper()
	if p := impl.Parse(text); p.Code != 0 || len(p.Sheet.Forms) != forms {
		t.Errorf("%s: code %d at %d, %d forms; want %d", what, p.Code, p.At, len(p.Sheet.Forms), forms)
	}
}

func TestParseManyForms(t *testing.T) {
	counts := make([]int, 15)
	for i := range counts {
		counts[i] = 199
	}
	checkTooLarge(t, "3001 forms", blockTexts(counts...))
	checkStray(t, blockTexts(counts...)+"@", len(blockTexts(counts...)))
	counts[3] = 198
	checkWhole(t, "3000 forms", blockTexts(counts...), 3000)
}

// listTexts: rows with a list, the piece that is repeated, and how many of it make 200 Kids or Names.
var listTexts = []struct {
	head, piece, tail string
	most              int
}{
	{"", "break;", "break", 200},
	{"{", "break\n", "break}", 200},
	{"let ", "a,", "a", 200},
	{"let a = ", "1,", "1", 200},
	{"return ", "1,", "1", 200},
	{"x = ", "1,", "1", 199},
	{"", "x,", "x = 1", 199},
	{"f(", "1,", "1)", 199},
	{"x = {", "1,", "1}", 200},
	{"x = {", "[1]=1,", ".a=1,}", 200},
	{"fn f(", "a,", "a) {}", 200},
	{"x = fn(", "a,", "a) {}", 200},
	{"x = fn(", "a,", "a, ...) {}", 200},
	{"for ", "a,", "a in b {}", 200},
}

func TestParseManyKids(t *testing.T) {
	for _, l := range listTexts {
		text := func(count int) string { return l.head + strings.Repeat(l.piece, count-1) + l.tail }
		if p := impl.Parse(text(l.most)); p.Code != 0 {
			t.Errorf("%s%s: code %d with 200", l.head, l.piece, p.Code)
		}
		checkTooLarge(t, l.head+l.piece+" with 201", text(l.most+1))
		checkStray(t, text(l.most+1)+" @", len(text(l.most+1))+1)
	}
}

func TestParseDepths(t *testing.T) {
	for _, d := range []struct {
		head, open, midst, end string
		most                   int
	}{
		{"", "{", "", "}", 100},
		{"throw ", "#", "a", "", 98},
		{"throw ", "~(", "a", ")", 98},
		{"throw ", "a..", "b", "", 98},
		{"throw a", "", "", ".b", 98},
		{"throw a", "", "", "-b", 98},
		{"throw a", "", "", "[1]", 98},
		{"throw ", "{", "", "}", 50},
		{"throw ", "{{},", "1", "}", 49},
		{"throw ", "f(", "a", ")", 98},
		{"f", "", "", "()", 98},
		{"", "if a{", "", "}", 50},
		{"if a{}", "", "", "elif b{}", 98},
		{"", "fn f(){", "", "}", 33},
	} {
		text := func(count int) string {
			return d.head + strings.Repeat(d.open, count) + d.midst + strings.Repeat(d.end, count)
		}
		if p := impl.Parse(text(d.most)); p.Code != 0 {
			t.Errorf("%q: code %d at %d", text(d.most), p.Code, p.At)
		}
		checkTooLarge(t, text(d.most+1), text(d.most+1))
		checkStray(t, text(d.most+1)+"?", len(text(d.most+1)))
	}
}

func TestParseDeepTexts(t *testing.T) {
	for _, open := range []string{"(", "{", "f(", "x=[", "if a{", "a[", "x=fn(){", "x=((({[", "x=~(", "f({"} {
		text := strings.Repeat(open, impl.MaxText/len(open))
		first := impl.Parse(open + open).At
		if at := impl.Parse(text).At; impl.Parse(text).Code != 1 || at != first && (first != 2*len(open) || at != len(text)) {
			t.Errorf("%s: code %d at %d", open, impl.Parse(text).Code, at)
		}
	}
	many := impl.MaxText/2 - 1
	closed := "x=" + strings.Repeat("(", many-1) + "a" + strings.Repeat(")", many-1)
	checkWhole(t, "many parentheses", closed, 4)
	checkStray(t, closed+")", len(closed))
	checkTooLarge(t, "many prefixes", "x="+strings.Repeat("~", impl.MaxText-3)+"a")
	checkTooLarge(t, "many blocks", strings.Repeat("{", impl.MaxText/2)+strings.Repeat("}", impl.MaxText/2))
	checkStray(t, strings.Repeat("{", many)+strings.Repeat("}", many+1), 2*many)
}

func TestParseLongTokens(t *testing.T) {
	names := []string{
		"throw %s", "let a, %s", "const %s = 1", "fn %s() {}", "fn f(a, %s) {}", "x = fn(%s) {}", "for %s = 1, 2 {}", "for a, %s in b {}",
		"try {} catch %s {}", "try {} catch e, %s {}", "a.%s = 1", "%s()", "%s = 1", "x = {.%s = 1}", "f(a.%s)",
	}
	for _, place := range names {
		checkTextLimit(t, place, strings.Repeat("n", 40), "n")
	}
	for _, place := range []string{"throw %s", "x = {[%s] = 1}", "f(-%s)"} {
		checkTextLimit(t, place, "1."+strings.Repeat("5", 38), "5")
		checkTextLimit(t, place, strings.Repeat("9", 40), "9")
		checkTextLimit(t, place, "1e"+strings.Repeat("0", 38), "0")
		checkTextLimit(t, place, `"`+strings.Repeat("q", 4000)+`"`, "")
		checkTextLimit(t, place, `"`+strings.Repeat(`\x00`, 3999)+`\n"`, "")
	}
	checkWhole(t, "a long hex", "throw 0x"+strings.Repeat("f", 16), 3)
}

// checkTextLimit: a token of the greatest length can stand in a text; with one byte more it is too large.
func checkTextLimit(t *testing.T, place, token, more string) {
	t.Helper()
	if p := impl.Parse(fmt.Sprintf(place, token)); p.Code != 0 {
		t.Errorf(place+": code %d at %d", token[:8], p.Code, p.At)
	}
	longer := token + more
	if more == "" {
		longer = token[:len(token)-1] + `q"`
	}
	text := fmt.Sprintf(place, longer)
	checkTooLarge(t, place, text)
	checkStray(t, text+" ?", len(text)+1)
}

// TestParseIsNew: what is answered has no memory of the text, nor two lists of it any in common.
func TestParseIsNew(t *testing.T) {
	r := rand.New(rand.NewSource(2))
	for _, s := range grownSheets(8, 100) {
		text, want := spreadOf(s, r).laid()
		bytes := []byte(text)
		p := impl.Parse(unsafe.String(unsafe.SliceData(bytes), len(bytes)))
		if string(bytes) != text {
			t.Fatalf("%q: written into", text)
		}
		for i := range bytes {
			bytes[i] = '?'
		}
		if !sameSheet(p.Sheet, want) {
			t.Fatalf("%q: the sheet shares its memory", text)
		}
		for n := range p.Sheet.Forms {
			one := impl.Sheet{Forms: []impl.Form{p.Sheet.Forms[n]}}
			rest := copiedSheet(p.Sheet)
			overwrite(one)
			now := copiedSheet(p.Sheet)
			now.Forms[n], rest.Forms[n] = impl.Form{}, impl.Form{}
			if !sameSheet(now, rest) {
				t.Fatalf("%q: a list of form %d is another's too", text, n)
			}
		}
	}
}
