package tests

import (
	"strings"
	"testing"

	"loop.example/heddle/impl"
)

// wholeTexts: a text for each row, and more, well-formed.
var wholeTexts = []string{
	"let a, b = 1, 2", "let a; let b", "const A = 1", "fn f(a, b, ...) { f() }", "fn f(...) { }", "fn f() { return }",
	"if a { b() } elif c { d() } else { e() }", "while a { break }", "for i = 1, 2, 3 { next }", "for k, v in t { }", "return",
	"return a, b", "try { f() } catch e, g { h() }", "throw 1 + 2", "defer f.g[1](2, 3)", "{ { } ; f() }", "x, y.z, w[1] = 1, 2",
	"f(1)(2).g[3](4)", "x = a and -b or not #c .. ~d", "x = {1, [2] = 3, .a = 4, }", "x = fn(a) { return a }", "x = (f())", "x = (fn() { a() ; b() })",
	"f(fn() { a() ; b() }, 1)", "x = {fn() { return }, 2}", "x[fn() { return 1 }] = 2", "x = ((a).b)(c)", "f() ; (g)()", "x = ...",
}

// TestParseNewlineInGaps: a newline between two tokens is a SEP where one can stand, and nothing where none can; so is one behind a remark.
func TestParseNewlineInGaps(t *testing.T) {
	separate, blank := 0, 0
	for _, text := range wholeTexts {
		tokens, _ := plainRow(text)
		for i := range len(tokens) + 1 {
			at := len(text)
			if i < len(tokens) {
				at = tokens[i].From
			}
			stands := " "
			if chartOf(text[:at]).can(impl.TSep) {
				stands, separate = ";", separate+1
			} else {
				blank++
			}
			for _, line := range []string{"\n", " \n ", "\r\n", " -- r\n", "\t-- \" --\n"} {
				checkAlike(t, text[:at]+line+text[at:], text[:at]+stands+text[at:])
			}
			checkAlike(t, text[:at]+"\n\n--\n \n"+text[at:], text[:at]+strings.Repeat(stands, 4)+text[at:])
			checkAlike(t, text[:at]+"\n;\n"+text[at:], text[:at]+strings.Repeat(stands, 2)+";"+text[at:])
			checkText(t, text[:at]+"\n"+text[at:])
		}
	}
	if separate < 50 || blank < 150 {
		t.Errorf("%d gaps with a SEP, %d without", separate, blank)
	}
}

// checkAlike: two texts have one sheet but for places, or neither has one.
func checkAlike(t *testing.T, a, b string) {
	t.Helper()
	if x, y := bareTold(a), bareTold(b); x != y {
		t.Errorf("%q is\n%s%q is\n%s", a, x, b, y)
	}
}

func TestParseNewlinesThatSeparate(t *testing.T) {
	for text, alike := range map[string]string{
		"return\nf()":                    "return; f()",
		"return\n\n(f)()":                "return; (f)()",
		"return a\n(f)()":                "return a; (f)()",
		"f()\n(g)()":                     "f(); (g)()",
		"f\n()\n(g)()":                   "f(); (g)()",
		"x = a\n(b)()":                   "x = a; (b)()",
		"x = a -- r\n(b)()":              "x = a; (b)()",
		"let a\nb()":                     "let a; b()",
		"let a = b\nc()":                 "let a = b; c()",
		"const A = b\n(c)()":             "const A = b; (c)()",
		"throw a\n(b)()":                 "throw a; (b)()",
		"defer f()\n(g)()":               "defer f(); (g)()",
		"if a {}\n(b)()":                 "if a {}; (b)()",
		"break\nnext\n":                  "break; next",
		"{\nf()\n}\n{\n}":                "{f()}; {}",
		"x = fn() {}\n(f)()":             "x = fn() {}; (f)()",
		"x = (fn() {\nf()\n(g)()\n})":    "x = (fn() { f(); (g)() })",
		"f({fn() {\nreturn\na()\n}})":    "f({fn() { return; a() }})",
		"x[fn() {\nlet a\nb()\n}] = 1":   "x[fn() { let a; b() }] = 1",
		"x = {\nfn() { return\n}\n,\n1}": "x = {fn() { return }, 1}",
	} {
		checkSame(t, text, alike)
	}
}

func TestParseNewlinesThatAreBlanks(t *testing.T) {
	for text, alike := range map[string]string{
		"f\n(1)":                         "f(1)",
		"f\n.g\n[1]\n()":                 "f.g[1]()",
		"x\n=\n1":                        "x = 1",
		"x\n.y\n,\nz\n=\n1,\n2":          "x.y, z = 1, 2",
		"defer\nf\n()":                   "defer f()",
		"x = (a\n(b)\n.c\n+\nd\n)":       "x = (a(b).c + d)",
		"x = f(\na\n,\nb\n)":             "x = f(a, b)",
		"x = a[\nb\n(c)\n]":              "x = a[b(c)]",
		"x = {\na\n,\n[\nb\n]\n=\nc\n}":  "x = {a, [b] = c}",
		"x = {a\n(b)\n,\n.\nc\n=\nd,\n}": "x = {a(b), .c = d}",
		"x = a +\nb\nf()":                "x = a + b; f()",
		"x = not\n-\na":                  "x = not -a",
		"if\na\n(b)\n{}":                 "if a(b) {}",
		"while a\n.b {}":                 "while a.b {}",
		"for\ni\n=\n1\n,\n2\n,\n3\n{}":   "for i = 1, 2, 3 {}",
		"for i\n,\nj\nin\na\n[1]\n{}":    "for i, j in a[1] {}",
		"try\n{}\ncatch\ne\n,\ng\n{}":    "try {} catch e, g {}",
		"fn\nf\n(\na\n,\n...\n)\n{}":     "fn f(a, ...) {}",
		"throw\n1":                       "throw 1",
		"let\na,\nb =\n1,\n2":            "let a, b = 1, 2",
		"const\nA\n=\n1":                 "const A = 1",
		"x = fn\n(\n)\n{}":               "x = fn() {}",
		"(\nf\n)\n(\n)":                  "(f)()",
		"if a {} elif\nb\n{} else\n{}":   "if a {} elif b {} else {}",
	} {
		checkSame(t, text, alike)
	}
}

// TestParseNewlinesTooEarly: where a newline separates, what stands behind it cannot go on.
func TestParseNewlinesTooEarly(t *testing.T) {
	for text, at := range map[string]int{
		"let a\n= 1": 6, "let a\n, b": 6, "x = a\n+ b": 6, "x = a\n.b": 6, "x = a\n[b]": 6, "x = a\n, b": 6, "f()\n.g()": 4, "f()\n[1] = 2": 4,
		"if a {}\nelse {}": 12, "if a {}\nelif b {}": 12, "return a\nand b": 12, "throw a\n.. b": 8, "defer f()\n.g()": 10, "x = fn() {}\n+ 1": 12,
	} {
		checkStray(t, text, at)
		checkText(t, text)
	}
}
