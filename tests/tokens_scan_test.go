package tests

import (
	"strings"
	"testing"

	"loop.example/heddle/impl"
)

func TestScanLength(t *testing.T) {
	name := strings.Repeat("a", 65536)
	checkAlone(t, name, impl.Token{Kind: 1, Text: name})
	checkFault(t, name+"a", 65536)
	checkScanned(t, strings.Repeat(" ", 65536), impl.Scanned{Ok: true})
	checkFault(t, strings.Repeat(" ", 65537), 65536)
	// Behind the limit nothing else of the text is looked at.
	checkFault(t, "@"+name, 65536)
	checkFault(t, strings.Repeat("@", 65536), 0)
	checkFault(t, strings.Repeat(" ", 65535)+"@", 65535)
	checkFault(t, "\""+name[1:], 65536)
	digits := strings.Repeat("9", 65536)
	checkAlone(t, digits, impl.Token{Kind: 3, Text: digits})
	quoted := "\"" + strings.Repeat("é", 32767) + "\""
	checkAlone(t, quoted, impl.Token{Kind: 4, Text: quoted[1 : len(quoted)-1]})
	checkNewlines(t, 65536)
}

func checkNewlines(t *testing.T, count int) {
	s := impl.Scan(strings.Repeat("\n", count))
	if !s.Ok || len(s.Tokens) != count {
		t.Fatal(s.Ok, s.At, len(s.Tokens))
	}
	for i, x := range s.Tokens {
		if x != (impl.Token{Kind: 7, From: i, To: i + 1, Line: i + 1}) {
			t.Fatal(i, x)
		}
	}
}

func TestBlanksAlone(t *testing.T) {
	for _, text := range []string{"", " ", "\t", "\r", " \t\r \r", "--", "-- a", "--\r", "---", "-- @ \x00 \xff \" -- \\", " -- a", "--\t--", "--é"} {
		checkScanned(t, text, impl.Scanned{Ok: true})
	}
}

func TestRemarkEnds(t *testing.T) {
	checkScanned(t, "-- a\n", impl.Scanned{Ok: true, Tokens: []impl.Token{{Kind: 7, From: 4, To: 5, Line: 1}}})
	checkScanned(t, "--\nb", impl.Scanned{Ok: true, Tokens: []impl.Token{{Kind: 7, From: 2, To: 3, Line: 1}, {Kind: 1, From: 3, To: 4, Line: 2, Text: "b"}}})
	checkScanned(t, "a--b\r\n--c", impl.Scanned{Ok: true, Tokens: []impl.Token{{Kind: 1, To: 1, Line: 1, Text: "a"}, {Kind: 7, From: 5, To: 6, Line: 1}}})
	// A return is a blank, and ends nothing.
	checkScanned(t, "-- a\rb", impl.Scanned{Ok: true})
	checkScanned(t, "a\r--\rb\r\rc", impl.Scanned{Ok: true, Tokens: []impl.Token{{Kind: 1, To: 1, Line: 1, Text: "a"}}})
	checkKinds(t, "a\rb\r", 1, 1)
	// No remark begins within a string, and no string within a remark.
	checkAlone(t, "\"--a\"", impl.Token{Kind: 4, Text: "--a"})
	checkKinds(t, "--\"\n\"--\"", 7, 4)
}

func TestPlaces(t *testing.T) {
	text := "a -- r @\n\n  if\t\"x\\n\"\r\n-- s\n 1.5--\n..."
	checkScanned(t, text, impl.Scanned{Ok: true, Tokens: []impl.Token{
		{Kind: 1, From: 0, To: 1, Line: 1, Text: "a"},
		{Kind: 7, From: 8, To: 9, Line: 1},
		{Kind: 7, From: 9, To: 10, Line: 2},
		{Kind: 20, From: 12, To: 14, Line: 3},
		{Kind: 4, From: 15, To: 20, Line: 3, Text: "x\n"},
		{Kind: 7, From: 21, To: 22, Line: 3},
		{Kind: 7, From: 26, To: 27, Line: 4},
		{Kind: 3, From: 28, To: 31, Line: 5, Text: "1.5"},
		{Kind: 7, From: 33, To: 34, Line: 5},
		{Kind: 49, From: 34, To: 37, Line: 6},
	}})
}

func TestFixedKinds(t *testing.T) {
	for kind, text := range fixedKinds {
		checkAlone(t, text, impl.Token{Kind: kind})
		checkKinds(t, " "+text+" ", kind)
	}
}

func TestWordsGoOn(t *testing.T) {
	for kind, word := range fixedKinds {
		if kind < 10 || kind > 31 {
			continue
		}
		for _, behind := range []string{"a", "z", "A", "Z", "_", "0", "9", word} {
			checkAlone(t, word+behind, impl.Token{Kind: 1, Text: word + behind})
		}
		for _, ahead := range []string{"a", "Z", "_", "a0"} {
			checkAlone(t, ahead+word, impl.Token{Kind: 1, Text: ahead + word})
		}
		short := word[:len(word)-1]
		checkAlone(t, short, impl.Token{Kind: 1, Text: short})
		great := strings.ToUpper(word)
		checkAlone(t, great, impl.Token{Kind: 1, Text: great})
		checkKinds(t, word+" "+word+"\n"+word+"."+word, kind, kind, 7, kind, 48, kind)
	}
}

func TestNames(t *testing.T) {
	for _, name := range []string{"a", "z", "A", "Z", "_", "__", "_1", "a0", "Z9_", "andor", "x", "e", "e5", "x10", strings.Repeat("b", 41)} {
		checkAlone(t, name, impl.Token{Kind: 1, Text: name})
	}
	checkKinds(t, "a b.c", 1, 1, 48, 1)
	checkFault(t, "aé", 1)
	checkFault(t, "a\x00", 1)
}

func TestSigns(t *testing.T) {
	for text, want := range map[string][]int{
		".": {48}, "..": {72}, "...": {49}, "....": {49, 48}, ".....": {49, 72}, "......": {49, 49}, ". .": {48, 48}, ".. .": {72, 48}, "..\n.": {72, 7, 48},
		"/": {64}, "//": {65}, "///": {65, 64}, "////": {65, 65}, "/ /": {64, 64},
		"~": {69}, "~=": {74}, "~==": {74, 47}, "~~=": {69, 74}, "~ =": {69, 47}, "~===": {74, 73},
		"<": {75}, "<=": {76}, "<<": {70}, "<<=": {70, 47}, "<<<": {70, 75}, "<==": {76, 47}, "<>": {75, 77}, "< =": {75, 47},
		">": {77}, ">=": {78}, ">>": {71}, ">>=": {71, 47}, ">>>=": {71, 78}, "><": {77, 75},
		"=": {47}, "==": {73}, "===": {73, 47}, "= =": {47, 47}, "=<": {47, 75}, "=~": {47, 69},
		"-": {62}, "- -": {62, 62}, "--": nil, "---": nil, "- --": {62}, "-\n-": {62, 7, 62}, "->": {62, 77}, "-.": {62, 48},
		"|": {68}, "||": {68, 68}, "&&": {67, 67}, "**": {63, 63}, ";;": {5, 5}, "++": {61, 61}, "##": {50, 50}, "%%": {66, 66},
		"({[]})": {40, 42, 44, 45, 43, 41}, "a.b": {1, 48, 1}, "a..b": {1, 72, 1}, "a...b": {1, 49, 1}, "a--b": {1}, "a-b": {1, 62, 1},
	} {
		checkKinds(t, text, want...)
	}
}

func TestScanByForms(t *testing.T) {
	for _, text := range someRows(40000) {
		checkScan(t, text)
	}
}

// TestShortTexts: every text of up to five of the bytes on which what a token is hangs.
func TestShortTexts(t *testing.T) {
	bytes := "01.e+x\"\\-a\n"
	texts := []string{""}
	for range 5 {
		var longer []string
		for _, text := range texts {
			for i := range len(bytes) {
				longer = append(longer, text+bytes[i:i+1])
			}
		}
		texts = longer
		step := 1 + len(texts)/20000
		for i := 0; i < len(texts); i += step {
			checkScan(t, texts[i])
		}
	}
}

func TestScanIsNew(t *testing.T) {
	text := "a 1.5 \"b\" if"
	first := impl.Scan(text)
	for i := range first.Tokens {
		first.Tokens[i] = impl.Token{}
	}
	checkScan(t, text)
}
