package tests

import (
	"fmt"
	"math/rand"
	"slices"
	"strings"
	"testing"

	"loop.example/heddle/impl"
)

// P3: each of the codes 2 to 6 alone: the code and the part at which it is.
func TestBindFaults(t *testing.T) {
	for _, c := range []struct {
		text string
		code int
		part string
	}{
		{"print(a)", 2, "a"},
		{"a = 1", 2, "a"},
		{"a.b = 1", 2, "a"},
		{"let a = a", 2, "a"},
		{"let x = fn() { return x }", 2, "x"},
		{"{ let a }\nprint(a)", 2, "a"},
		{"for i = 1, i {}", 2, "i"},
		{"for i in print { }\nprint(i)", 2, "i"},
		{"try { e() } catch e { }", 2, "e"},
		{"const A = zz", 2, "zz"},
		{"const A = A", 2, "A"},
		{"const A = 1\nA = 2", 3, "A"},
		{"print = 2", 3, "print"},
		{"let a\na, cells = 2", 3, "cells"},
		{"const A = 1\nfn f() { A = 2 }", 3, "A"},
		{"let A\nconst A = 1\nA = 2", 3, "A"},
		{"break", 4, "break"},
		{"next", 4, "next"},
		{"if true { break }", 4, "break"},
		{"{ next }", 4, "next"},
		{"try { break } catch e { }", 4, "break"},
		{"while true {}\nbreak", 4, "break"},
		{"while true { fn f() { next } }", 4, "next"},
		{"while fn() { break } { break }", 4, "break"},
		{"for i = 1, fn() { next } { next }", 4, "next"},
		{"for i = 1, 2, fn() { break } { break }", 4, "break"},
		{"for k in fn() { break } { break }", 4, "break"},
		{"for i = 1, 2 { while fn() { break } { } }", 4, "break"},
		{"while true { print(fn() { if true { next } }) }", 4, "next"},
		{"fn f() { return ... }", 5, "..."},
		{"fn f(a) { return (...) }", 5, "..."},
		{"fn f(...) { return fn() { return {...} } }", 5, "..."},
		{"print(fn() { print(...) })", 5, "..."},
		{"const A = fn(a) { }", 6, "const A = fn(a) { }"},
		{"let a\nconst A = a", 6, "const A = a"},
		{"const A = 1 // 0", 6, "const A = 1 // 0"},
		{"const A = 0 / 0", 6, "const A = 0 / 0"},
		{"const A = ...", 6, "const A = ..."},
		{"const A = {}\nconst B = A", 6, "const A = {}"},
		{"fn f(a) { const A = a.b }", 6, "const A = a.b"},
	} {
		checkBindFault(t, c.text, c.code, c.part)
	}
}

// P3: where there is no such fault, though it is near.
func TestBindNearFaults(t *testing.T) {
	for _, text := range []string{
		"print(print)", "let print\nprint = 1", "const A = 1\nlet A\nA = 2", "const A = print\nA.b, A[1] = 2, 3", "print.a = print",
		"while true { break }", "for i = 1, 2 { next }", "for k in print { break }", "while true { if true { break } elif true { next } else { break } }",
		"while true { { next } }", "while true { try { break } catch e { next } }", "while true { while true { break }\nbreak }",
		"fn f() { while true { break } }", "while true { fn f() { for i = 1, 2 { next } } }", "while fn() { while true { break } } { next }",
		"return ...", "print(..., (...))", "fn f(...) { return ... }", "fn f(a, ...) { return fn(...) { return ... }, ... }", "while ... { print({...}) }",
		"let a = ...\nfn f() { return a }", "const A = 1 / 0", "const A = 0 / 0 == 1", "const A = nil and 1", "const A = print\nconst B = A",
		"try {} catch e { e() }", "fn f() { f() }", "let x = 1\nlet x = x",
	} {
		x := textTree(t, text)
		if b := checkBindPlain(t, x); b.Code != 0 || b.Part != 0 || len(b.Unit.Fns) == 0 {
			t.Errorf("%q: code %d at %d", text, b.Code, b.Part)
		}
	}
}

// faultyTexts: texts with a fault each, and where it is.
var faultyTexts = []struct {
	text string
	code int
	part string
}{
	{"q2(1)", 2, "q2"}, {"print = 1", 3, "print"}, {"break", 4, "break"}, {"fn f5() { return ... }", 5, "..."}, {"const A6 = {}", 6, "const A6 = {}"},
}

// P3: of two faults the one at the least part, whatever their codes.
func TestBindTwoFaults(t *testing.T) {
	for _, a := range faultyTexts {
		for _, b := range faultyTexts {
			checkBindFault(t, a.text+"\n"+b.text, a.code, a.part)
			checkBindFault(t, "fn g(x) { "+a.text+" }\nif 1 { "+b.text+" }", a.code, a.part)
			checkBindFault(t, "if 1 { "+a.text+" } else { "+b.text+" }", a.code, a.part)
		}
	}
	// A part stands behind those below it, so an inner fault is the first.
	checkBindFault(t, "const A = fn() { return ... }", 5, "...")
	checkBindFault(t, "const A = fn() { break }", 4, "break")
	checkBindFault(t, "const A = q", 2, "q")
	checkBindFault(t, "const A = fn() { const B = {} }", 6, "const B = {}")
	checkBindFault(t, "print, cells = q", 3, "print")
	checkBindFault(t, "q, cells = 1", 2, "q")
	checkBindFault(t, "cells, q = 1", 3, "cells")
	checkBindFault(t, "cells.x, cells = 1", 3, "cells")
	// A fn that is walked behind the text around it has parts ahead of that.
	checkBindFault(t, "print(fn() { break }, q)", 4, "break")
	checkBindFault(t, "q(fn() { break })", 2, "q")
	checkBindFault(t, "fn f() { return ..., q }\nnext", 5, "...")
	checkBindFault(t, "while fn() { return fn() { next } } { q() }", 4, "next")
	checkBindFault(t, "let a = {fn() { return {...} }, [q] = 1}", 5, "...")
}

// P3: a tree that is not sound has code 1 at part 0, whatever else is wrong with it.
func TestBindUnsoundTrees(t *testing.T) {
	for seed := range int64(400) {
		r := rand.New(rand.NewSource(seed))
		x := boundTree(seed, int(seed%2)*5)
		for plainTreeFault(x) == (impl.Wrong{}) {
			spoilTree(r, &x)
		}
		if b := impl.Bind(x); b.Code != 1 || b.Part != 0 || len(b.Unit.Fns) != 0 || len(impl.Closed(x)) != 0 || len(impl.Advice(x)) != 0 {
			t.Fatalf("%s: %v, %v, %v", shortly(x), b, impl.Closed(x), impl.Advice(x))
		}
	}
	for _, x := range []impl.Tree{{}, {Parts: []impl.Part{}}, {Parts: []impl.Part{{Kind: impl.SBreak, Line: 1}}}, treeOf(wideSheet(3001)), treeOf(deepSheet(101))} {
		if b := impl.Bind(x); b.Code != 1 || b.Part != 0 || len(b.Unit.Fns) != 0 {
			t.Errorf("%s: %v", shortly(x), b)
		}
	}
}

func checkBindCode(t *testing.T, what string, x impl.Tree, code int) {
	t.Helper()
	checkSoundTree(t, what, x)
	if b := impl.Bind(x); b.Code != code || b.Part != 0 || (code == 0) != (len(b.Unit.Fns) > 0) {
		t.Errorf("%s: code %d at %d, want %d", what, b.Code, b.Part, code)
	}
}

// manyNames: so many names in lets of at most 100.
func manyNames(count int) string {
	var lets strings.Builder
	for from := 0; from < count; from += 100 {
		lets.WriteString("let " + strings.Join(someNames(count)[from:min(count, from+100)], ", ") + "\n")
	}
	return lets.String()
}

func textsOf(count int, one string) string { return strings.Repeat(one, count) }

// P3: 200 variables of a fn, and one more; those of other fns, and consts, do not count.
func TestBindManyVars(t *testing.T) {
	for _, c := range []struct {
		text string
		code int
	}{
		{manyNames(200), 0},
		{manyNames(201), 7},
		{manyNames(199) + "fn f() { }", 0},
		{manyNames(200) + "fn f() { }", 7},
		{manyNames(200) + "const A = 1\nreturn fn(a, b) { let c }, A", 0},
		{manyNames(198) + "try {} catch e {}", 0},
		{manyNames(199) + "try {} catch e {}", 7},
		{manyNames(199) + "for i = 1, 2 {}", 0},
		{manyNames(200) + "for i = 1, 2 {}", 7},
		{"return fn(a, b) { " + manyNames(198) + "}", 0},
		{"return fn(a, b) { " + manyNames(199) + "}", 7},
		{"let a, a\n" + manyNames(198), 0},
		{"let a, a\n" + manyNames(199), 7},
		{"return fn(" + strings.Join(someNames(200), ", ") + ") {}", 0},
		{"return fn(" + strings.Join(someNames(200), ", ") + ") { let z }", 7},
	} {
		checkBindCode(t, fmt.Sprintf("%.60q ..", c.text), textTree(t, c.text), c.code)
	}
}

// P3: 200 Ups of a fn, and one more, of two fns around it.
func TestBindManyUps(t *testing.T) {
	using := func(count int) string {
		var out strings.Builder
		for from := 0; from < count; from += 100 {
			out.WriteString("print(" + strings.Join(someNames(count)[from:min(count, from+100)], ", ") + ")\n")
		}
		return out.String()
	}
	for _, c := range []struct {
		text string
		code int
	}{
		{manyNames(200) + "return fn() { " + using(200) + " }", 0},
		{manyNames(199) + "return fn(z1) { return fn() { " + using(199) + "print(z1) } }", 0},
		{manyNames(200) + "return fn(z1) { return fn() { " + using(200) + "print(z1) } }", 7},
		{manyNames(200) + "return fn(z1) { return fn() { " + using(200) + "return fn() { print(z1) } } }", 7},
		{manyNames(200) + "return fn(z1) { print(fn() { " + using(200) + "})\nreturn fn() { print(z1) } }", 0},
		{manyNames(200) + "return fn() { " + using(200) + using(200) + " }", 0},
	} {
		x := textTree(t, c.text)
		checkBindCode(t, fmt.Sprintf(".. %q", c.text[len(c.text)-60:]), x, c.code)
		if got := len(impl.Closed(x)); got < 199 {
			t.Errorf("%d variables closed over", got)
		}
	}
}

// P3: 300 fns with the text, and one more.
func TestBindManyFns(t *testing.T) {
	for count, code := range map[int]int{299: 0, 300: 7, 301: 7, 298: 0} {
		half := "fn() {}" + textsOf(149, ", fn() {}")
		rest := "fn() {}" + textsOf(count-151, ", fn() {}")
		checkBindCode(t, fmt.Sprint(count, " EFns"), textTree(t, "let a = "+half+"\nreturn "+rest), code)
	}
}

// nilsTree: a tree of so many parts, ENils in SReturns but for one EField.
func nilsTree(parts int, field bool) impl.Tree {
	var x impl.Tree
	var stats []int
	add := func(p impl.Part, kids ...int) int {
		p.Kids = kids
		x.Parts = append(x.Parts, p)
		return len(x.Parts) - 1
	}
	var kids []int
	if field {
		kids = []int{add(impl.Part{Kind: impl.EField, Text: "x"}, add(impl.Part{Kind: impl.ENil}))}
	}
	for len(x.Parts) < parts-2 {
		if len(kids) == 150 {
			stats = append(stats, add(impl.Part{Kind: impl.SReturn, Line: 1}, kids...))
			kids = nil
			continue
		}
		kids = append(kids, add(impl.Part{Kind: impl.ENil}))
	}
	stats = append(stats, add(impl.Part{Kind: impl.SReturn, Line: 1}, kids...))
	add(impl.Part{Kind: impl.SBlock, Line: 1}, stats...)
	return x
}

// P3: 3000 nodes in all, and one more; 200 kids of a node, and more; depth 100.
func TestBindGreatUnits(t *testing.T) {
	for _, c := range []struct {
		parts int
		field bool
		code  int
		nodes int
	}{
		{3000, false, 0, 3000}, {2999, true, 0, 3000}, {3000, true, 7, 0}, {2998, true, 0, 2999},
	} {
		x := nilsTree(c.parts, c.field)
		if len(x.Parts) != c.parts {
			t.Fatal(len(x.Parts))
		}
		checkBindCode(t, fmt.Sprint(c), x, c.code)
		if b := impl.Bind(x); c.code == 0 && len(b.Unit.Fns[0].Nodes) != c.nodes {
			t.Errorf("%v: %d nodes", c, len(b.Unit.Fns[0].Nodes))
		}
	}
	for _, c := range []struct {
		text string
		code int
	}{
		{textsOf(200, "print()\n"), 0},
		{textsOf(100, "fn f() {}\n"), 0},
		{textsOf(101, "fn f() {}\n"), 7},
		{textsOf(100, "fn f() {}\n") + textsOf(100, "const A = 1\n"), 0},
		{textsOf(100, "fn f() {}\n") + "print()", 7},
		{textsOf(99, "fn f() {}\n") + "print()\nprint()", 0},
		{"return {1" + textsOf(99, ", 1") + "}", 0},
		{"return {1" + textsOf(100, ", 1") + "}", 7},
		{"return {.a = 1" + textsOf(99, ", [1] = 1") + "}", 0},
		{"return {.a = 1" + textsOf(100, ", [1] = 1") + "}", 7},
		{"fn f() { return {1" + textsOf(100, ", 1") + "} }", 7},
		{"for a, b, c, d in print {}", 0},
		{"for a, b, c, d, e in print {}", 7},
		{"while true { for a, b, c, d, e in print {} }", 7},
		{"for a, b, c, d in print { for a, b, c, d in print {} }", 0},
	} {
		checkBindCode(t, fmt.Sprintf("%.60q ..", c.text), textTree(t, c.text), c.code)
	}
	deep := treeOf(deepSheet(100))
	deep.Parts[0].Kind, deep.Parts[1].Kind = impl.SReturn, impl.SReturn
	checkBindCode(t, "depth 100", deep, 0)
	long := "return " + textsOf(96, "-") + "{nil}"
	checkBindCode(t, "depth 100 in an expression", textTree(t, long), 0)
	checkBindCode(t, "depth 100 at a name", textTree(t, "return "+textsOf(97, "-")+"print.a"), 0)
	// The other faults come first.
	checkBindFault(t, "for a, b, c, d, e in print {}\nbreak", 4, "break")
	checkBindFault(t, manyNames(201)+"q()", 2, "q")
}

// P3: Closed tells of a unit that is too great, but of none with another fault.
func TestClosedWithFaults(t *testing.T) {
	closing := "let a, b\nprint(fn() { return b })\n"
	want := []impl.Decl{{Part: 0, Place: 1}}
	for text, closed := range map[string][]impl.Decl{
		closing: want, closing + "for a, b, c, d, e in print {}": want, closing + manyNames(201): want,
		closing + "return {1" + textsOf(100, ", 1") + "}": want,
	} {
		if got := impl.Closed(textTree(t, text)); !slices.Equal(got, closed) {
			t.Errorf("%.80q ..: %v, want %v", text, got, closed)
		}
	}
	for _, c := range faultyTexts {
		if got := impl.Closed(textTree(t, closing+c.text)); len(got) != 0 {
			t.Errorf("%q: %v", closing+c.text, got)
		}
	}
}

// closedTold: the closed variables by their names, with the Line of what declares them and, behind a point, the place if that is not 0.
func closedTold(x impl.Tree) string {
	var told []string
	for _, d := range impl.Closed(x) {
		p := x.Parts[d.Part]
		one := fmt.Sprint(p.Names[d.Place], "=", declarers[p.Kind], p.Line)
		if d.Place != 0 {
			one += fmt.Sprint(".", d.Place)
		}
		told = append(told, one)
	}
	return strings.Join(told, " ")
}

// P3: which variables are closed over, by part, then by place.
func TestClosed(t *testing.T) {
	for text, want := range map[string]string{
		"":                                   "",
		"let a\na()":                         "",
		"let a\nfn f() { a() }":              "a=let1",
		"let a\nfn f() { a = 1 }":            "a=let1",
		"let a\nfn f() { a.b = 1 }":          "a=let1",
		"let a\nfn f() { let a\na() }":       "",
		"let a\nfn f() { f() }":              "f=fn2",
		"fn f(x) { x() }":                    "",
		"fn f(x) { print(fn() { x() }) }":    "x=param1",
		"fn f(x, y) { print(fn() { y() }) }": "y=param1.1",
		"let a\nprint(fn() {\nprint(fn() {\nprint(fn() { a() }) }) })":                         "a=let1",
		"let a\nprint(fn() { let b\nprint(fn() { a(b) }) })":                                   "a=let1 b=let2",
		"let a, b, c\nprint(fn() { c(a) })":                                                    "a=let1 c=let1.2",
		"let c\nlet b\nlet a\nprint(fn() { a(b, c) })":                                         "c=let1 b=let2 a=let3",
		"let a, a\nprint(fn() { a() })":                                                        "a=let1.1",
		"for i = 1, 2 { print(fn() { i() }) }":                                                 "i=for1",
		"for k, v in print { print(fn() { v() }) }":                                            "v=each1.1",
		"for a, b, c, d in print { print(fn() { d(b) }) }":                                     "b=each1.1 d=each1.3",
		"try {} catch e { print(fn() { e() }) }":                                               "e=try1",
		"try {} catch e, m { print(fn() { m() }) }":                                            "m=try1.1",
		"const A = 1\nprint(fn() { return A, print })":                                         "",
		"fn f() { fn g() { f()\ng() } }":                                                       "g=fn1 f=fn1",
		"for i = 1, 2 { let a\nprint(fn() { return i, a }) }\nlet z\nprint(fn() { return z })": "a=let1 i=for1 z=let3",
		"fn f(p) { let q\nreturn fn() { return q, p } }":                                       "q=let1 p=param1",
		"let a\nprint(fn() { return a })\nlet a\nprint(a)":                                     "a=let1",
		"let a\nlet b = 1, fn() { return a }\nprint(b)":                                        "a=let1",
	} {
		x := textTree(t, text)
		if got := closedTold(x); got != want {
			t.Errorf("%q: %s, want %s", text, got, want)
		}
		if got, plain := impl.Closed(x), plainClosed(x); !slices.Equal(got, plain) {
			t.Errorf("%q: %v, want %v", text, got, plain)
		}
	}
}
