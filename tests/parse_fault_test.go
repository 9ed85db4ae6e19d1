package tests

import (
	"fmt"
	"math/rand"
	"slices"
	"strings"
	"testing"

	"loop.example/heddle/impl"
)

// tokenPieces: how tokens of a Kind may be written.
func tokenPieces(kind int) []string {
	switch kind {
	case impl.TName:
		return []string{"a", "x1", "_", "andy", "el", "iff", "e", "thro"}
	case impl.TInt:
		return []string{"0", "1", "10", "0x1f", "9223372036854775807"}
	case impl.TFlt:
		return []string{"1.5", "2e3", "0e-1", "9223372036854775808"}
	case impl.TStr:
		return []string{`""`, `"q"`, `"\x41\n"`}
	case impl.TSep:
		return []string{";", "\n", "\n\n", "-- r\n"}
	case impl.TEnd:
		return []string{""}
	}
	return []string{fixedKinds[kind]}
}

// wander: a text that begins as a text can, token by token, with some that cannot stand.
func wander(r *rand.Rand, size int, stray int) string {
	every := make([]int, 0, len(fixedKinds)+5)
	for kind := range 79 {
		if fixedKinds[kind] != "" || kind >= 1 && kind <= 4 {
			every = append(every, kind)
		}
	}
	text, c := "", noTokens
	for range size {
		kinds := every
		if c != nil && r.Intn(stray) > 0 {
			kinds = c.kinds
		}
		pieces := tokenPieces(kinds[r.Intn(len(kinds))])
		text += pieces[r.Intn(len(pieces))] + []string{" ", " ", "", "\n", "\t", " --q\n"}[r.Intn(6)]
		c = chartOf(text)
	}
	return text
}

func TestParseFaultsByChance(t *testing.T) {
	r := rand.New(rand.NewSource(3))
	for i := range 4000 {
		text := wander(r, 1+i%14, 8)
		checkText(t, text)
		checkText(t, text[:r.Intn(len(text)+1)])
		if text != "" {
			at := r.Intn(len(text))
			odd := []string{"", ".", "-", "=", "~", "\n", "\"", "e", "0", "@", "\xff", "\\", "x", "(", "}", ","}[r.Intn(16)]
			checkText(t, text[:at]+odd+text[at+1:])
			checkText(t, text[:at]+odd+text[at:])
		}
	}
}

// TestParseEveryPairBehind: behind many beginnings, each token that there is, and each piece of one. Beginnings with the same last byte,
// behind which the same Kinds can stand, are taken for one.
func TestParseEveryPairBehind(t *testing.T) {
	met := map[string]bool{}
	for _, start := range textStarts {
		alike := fmt.Sprint(plainNext(start), start[max(0, len(start)-1):])
		if met[alike] {
			continue
		}
		met[alike] = true
		for kind := range 79 {
			for _, piece := range tokenPieces(kind) {
				if piece == "" {
					continue
				}
				checkText(t, start+" "+piece)
				checkText(t, start+piece+" ?")
				if len(piece) > 1 {
					checkText(t, start+" "+piece[:len(piece)-1]+";")
				}
			}
		}
	}
}

// textStarts: pieces of each row, up to each of its tokens.
var textStarts = startsOf(
	"let a, b = 1, 2;", "const A = 1\n", "fn f(a, b, ...) { }", "fn f() {}", "if a { } elif b { } elif c {} else { };", "while a { break }",
	"for i = 1, 2, 3 { next }", "for k, v in t { }", "return a, b;", "try { } catch e, g { }", "throw 1;", "defer f.g[1](2, 3);",
	"{ f() };", "x, y.z, w[1] = 1, 2", "(f)(1).g()", "x = a + -b == not c and #d", "x = { 1, [2] = 3, .a = 4, }", "x = fn(a) { return };",
	"x = (...)", "x = nil .. true .. false", "f(", "x = 5", "x = 1.5", "x = \"q\"", "f()\n(g)()", "x = ((a))", "(f())()",
)

func startsOf(texts ...string) []string {
	starts := []string{""}
	for _, text := range texts {
		tokens, _ := plainRow(text)
		for _, token := range tokens {
			starts = append(starts, text[:token.To])
		}
	}
	slices.Sort(starts)
	return slices.Compact(starts)
}

func TestParseEveryPrefix(t *testing.T) {
	for _, start := range textStarts {
		for i := range len(start) + 1 {
			checkText(t, start[:i])
			checkText(t, start[:i]+"\n")
			checkText(t, start[:i]+"\x00")
			checkText(t, start[:i]+strings.Repeat("\n", 3)+"(")
		}
	}
}

func TestParseStrays(t *testing.T) {
	for text, at := range map[string]int{
		// A token that cannot stand.
		"}": 0, "x = )": 4, "f() g": 4, "x = 1 2": 6, "x = {1 2}": 7, "let 5": 4, "let \"q\"": 4, "for a, b = 1, 2 {}": 9, "f() = 1": 4, "x, f() = 1, 2": 7,
		"return 1 ; ; }": 13, "fn f(a, ) {}": 8, "x = a.1": 6, "(a) = 1": 4, "(a.b) = 1": 6, "(a), b = 1": 3, "x, (a) = 1": 7, "defer (f())": 11, "{,}": 1,
		"x = {,}": 5, "x = {1,,}": 7, "try {} {}": 7, "if {": 4, "while a break": 8, "fn f {}": 5, "fn f(... , a) {}": 9, "f(,)": 2, "f(a,)": 4, "x[] = 1": 2,
		// A word that could go on as a name, or does not.
		"x = break": 9, "x = break;": 9, "let if = 1": 6, "let if": 6, "f(while)": 7, "x.end.in = 1": 8, "fn let() {}": 6, "else": 4, "catch {}": 5, "in = 1": 2,
		// A word, a piece of which another one begins with that may stand.
		"if x {} elfi {}": 10, "if x {} else2 {}": 12, "x = a an": 8, "x = a andy": 9, "x = a nor b": 6, "for a on": 6, "for a inn t": 8, "try {} cat": 10,
		"try {} cats": 10, "x = 1ab": 6, "x = 1orb": 7, "while a { } els": 12, "const A = 1 or2": 14,
		// A sign that could go on as a longer one.
		"let x == 5": 7, "x = ~= 5": 5, "fn f(.) {}": 6, "fn f(..) {}": 7, "x = a ... b": 8, "x = 5.y": 6, "x = 5 . y": 7, "x = 0x1.5": 8, "x = a <<< b": 8, "x == 1": 3,
		"x = a === b": 8, "f(a=b)": 4, "x = a >>= b": 8, "x ~= 1": 2, "x = a ~== b": 8, "f()..": 4, "x...": 2, "x = a..": 7, "x = 1...": 7, "...": 0,
		// A remark that is begun.
		"let - x": 5, "x -": 3, "x - y": 3, "f() -": 5, "f() -1": 5, "}-": 0, "x -- r": 6, "let -- r": 8, "let -- r\n}": 9, "if a {} -else {}": 9,
		// A string that is not closed or not right.
		"x = \"q": 6, "x = \"": 5, "x = \"q\n\"": 6, "x = \"\\q\"": 6, "x = \"\\x4": 8, "x = \"\\x4g": 8, "x = a \"q": 6, "let \"": 4, "x = \"a\" \"": 8,
		// A number that is not ended.
		"x = 1e": 6, "x = 1e+": 7, "x = 1ex": 6, "x = 0x": 6, "x = 0xg": 6, "x = 0x00000000000000001": 22, "x = 1.": 6, "x = 1.e5": 6, "let 1e": 4, "x = 01": 5, "x = 1 1e": 6,
		"x = 1e5e": 7, "x = 1.5.5": 8,
		// Bytes that no token has.
		"@": 0, "x = a'": 5, "x @ y": 2, "\x00": 0, "x = \xff": 4, "f() $": 4, "-- \xff\n\xff": 5, "x = a!": 5, "x = a \\": 6, "x = a\v": 5,
		// A text that ends too early.
		"x": 1, "x\n": 2, "x ": 2, "x = (1": 6, "defer f": 7, "defer f\n{": 8, "if a {": 6, "fn": 2, "fn f(": 5, "let": 3, "const A": 7, "const A =": 9, "{": 1, "{\n\n": 3,
		"try {}": 6, "try {} catch": 12, "try {} catch e,": 15, "for i = 1": 9, "for i = 1, 2": 12, "throw": 5, "x = {1,": 7, "x = a +": 7, "f(": 2, "x[1]": 4, "(f)": 3,
		"x = {[1]": 8, "x = {.a": 7, "x = not": 7, "if a {} elif": 12, "if a {} else": 12, "x = fn": 6, "while": 5,
	} {
		checkStray(t, text, at)
		checkText(t, text)
	}
}

func TestNextKinds(t *testing.T) {
	exprs := []int{1, 2, 3, 4, 17, 18, 24, 25, 29, 40, 42, 49, 50, 62, 69}
	infixes := []int{10, 26, 61, 62, 63, 64, 65, 66, 67, 68, 69, 70, 71, 72, 73, 74, 75, 76, 77, 78}
	stats := []int{1, 11, 13, 14, 18, 19, 20, 22, 23, 27, 28, 30, 31, 40, 42}
	suffixes := []int{40, 44, 48}
	for text, want := range map[string][][]int{
		"": {stats, {5, 6}}, " \n;-- r": {stats, {5, 6}}, "{": {stats, {5, 43}}, "{ f(); ": {stats, {5, 43}}, "f()\n": {stats, {5, 6}},
		"let": {{1}}, "let a": {{5, 6, 46, 47}}, "let a,": {{1}}, "let a =": {exprs}, "let a = b": {infixes, suffixes, {5, 6, 46}},
		"let a = 1": {infixes, {5, 6, 46}}, "const": {{1}}, "const A": {{47}}, "const A = 1": {infixes, {5, 6}},
		"fn": {{1}}, "fn f": {{40}}, "fn f(": {{1, 41, 49}}, "fn f(a": {{41, 46}}, "fn f(a,": {{1, 49}}, "fn f(...": {{41}}, "fn f()": {{42}}, "fn f() {}": {{5, 6}},
		"if": {exprs}, "if a": {infixes, suffixes, {42}}, "if a {}": {{5, 6, 15, 16}}, "if a {} else": {{42}}, "if a {} else {}": {{5, 6}}, "if a {}\n": {stats, {5, 6}},
		"if a {} elif b {}": {{5, 6, 15, 16}}, "while a {}": {{5, 6}}, "for": {{1}}, "for a": {{21, 46, 47}}, "for a, b": {{21, 46}}, "for a = 1": {infixes, {46}},
		"for a = 1, 2": {infixes, {42, 46}}, "for a = 1, 2, 3": {infixes, {42}}, "for a in b {}": {{5, 6}}, "break": {{5, 6}}, "next": {{5, 6}},
		"return": {exprs, {5, 6}}, "return\n": {stats, {5, 6}}, "return a": {infixes, suffixes, {5, 6, 46}}, "try": {{42}}, "try {}": {{12}}, "try {}\n": {{12}},
		"try {} catch e": {{42, 46}}, "try {} catch e, f": {{42}}, "throw": {exprs}, "throw 1": {infixes, {5, 6}}, "defer": {{1, 40}}, "defer f": {suffixes},
		"defer f()": {suffixes, {5, 6}}, "defer (f": {infixes, suffixes, {41}}, "x": {suffixes, {46, 47}}, "x\n": {suffixes, {46, 47}}, "x,": {{1, 40}}, "x, (y)": {suffixes},
		"x, f()": {suffixes}, "x, y.z": {suffixes, {46, 47}}, "(x)": {suffixes}, "(f())": {suffixes}, "f()": {suffixes, {5, 6}}, "f().x": {suffixes, {46, 47}},
		"f(": {exprs, {41}}, "f(a": {infixes, suffixes, {41, 46}}, "f(a,": {exprs}, "x[": {exprs}, "x[1": {infixes, {45}}, "x.": {{1}}, "x = (1": {infixes, {41}}, "x = (1)": {infixes, suffixes, {5, 6, 46}},
		"x = {": {exprs, {43, 44, 48}}, "x = {1": {infixes, {43, 46}}, "x = {1,": {exprs, {43, 44, 48}}, "x = {[": {exprs}, "x = {[1]": {{47}}, "x = {.": {{1}}, "x = {.a": {{47}}, "x = {}": {infixes, {5, 6, 46}},
		"x = fn": {{40}}, "x = fn() {}": {infixes, {5, 6, 46}}, "f(fn() {}": {infixes, {41, 46}}, "f(fn() {": {stats, {5, 43}}, "x = not": {exprs}, "x = - -- r": {exprs}, "x = a or": {exprs},
		"f() g": nil, "x = \"": nil, "x = 1e": nil, "@": nil, "}": nil, "x = 1.": nil, "x = break": nil, "f() }": nil, "let let": nil,
	} {
		var kinds []int
		for _, some := range want {
			kinds = append(kinds, some...)
		}
		slices.Sort(kinds)
		checkNext(t, text, kinds)
		checkNext(t, text, plainNext(text))
	}
}
