package tests

import (
	"math"
	"slices"
	"strings"
	"testing"

	"loop.example/heddle/impl"
)

// P3: each declaration holds from its own place on, and no further.
func TestUsesOfDeclarations(t *testing.T) {
	for text, want := range map[string]string{
		// SLet
		"f(a)\nlet a":                    "f=none a=none",
		"let a = a":                      "a=none",
		"let a\nlet a = a\nf(a)":         "a=var:let1 f=none a=var:let2",
		"let a, b\nf(a, b)":              "f=none a=var:let1 b=var:let1.1",
		"let a, b = b, a":                "b=none a=none",
		"let a\na = a":                   "a=var:let1 a=var:let1",
		"let a\na.b[a] = a":              "a=var:let1 a=var:let1 a=var:let1",
		"{ let a }\nf(a)":                "f=none a=none",
		"{\nlet a\n{ f(a) }\nf(a) }":     "f=none a=var:let2 f=none a=var:let2",
		"let a\n{ f(a)\nlet a\nf(a) }":   "f=none a=var:let1 f=none a=var:let3",
		"let a\n{\nlet a }\nf(a)":        "f=none a=var:let1",
		"if true { let a } else { a() }": "a=none",
		// SConst
		"f(A)\nconst A = 1":           "f=none A=none",
		"const A = A":                 "A=none",
		"const A = 1\nconst A = A":    "A=const:const1",
		"const A = 1\nA = A":          "A=const:const1 A=const:const1",
		"{ const A = 1 }\nf(A)":       "f=none A=none",
		"const A = 1\nlet A\nf(A)":    "f=none A=var:let2",
		"let A\nconst A = 1\nf(A)":    "f=none A=const:const2",
		"const A = 1\n{\nlet A\nA()}": "A=var:let3",
		// SFn
		"g()\nfn g() {}":                      "g=none",
		"fn g() { g() }\ng()":                 "g=up:fn1 g=var:fn1",
		"let g\nfn g() { g() }\ng()":          "g=up:fn2 g=var:fn2",
		"fn g() {}\nlet g\ng()":               "g=var:let2",
		"fn g() {}\nfn g() { g() }\ng()":      "g=up:fn2 g=var:fn2",
		"{ fn g() {} }\ng()":                  "g=none",
		"fn g() { fn h() { g()\nh() } }\nh()": "g=up:fn1 h=up:fn1 h=none",
		"fn g() { h() }\nfn h() {}":           "h=none",
		"fn g() {\nlet g\ng() }":              "g=var:let2",
		// SFor
		"for i = i, i, i { f(i) }":               "i=none i=none i=none f=none i=var:for1",
		"let i\nfor i = i, i { i() }\ni()":       "i=var:let1 i=var:let1 i=var:for2 i=var:let1",
		"for i = 1, 2 { let i = i\ni() }\ni()":   "i=var:for1 i=var:let1 i=none",
		"for i = fn() { i() }, 2 { }":            "i=none",
		"for i = 1, 2 { x = fn() { i() } }":      "x=none i=up:for1",
		"for i = 1, 2 {\nfor i = i, i { i() } }": "i=var:for1 i=var:for1 i=var:for2",
		// SEach
		"for k, v in f(k, v) { k(v) }\nk(v)":   "f=none k=none v=none k=var:each1 v=var:each1.1 k=none v=none",
		"let k\nfor k in k { k() }\nk()":       "k=var:let1 k=var:each2 k=var:let1",
		"for a, b, c, d, e in x { a(b, c, e)}": "x=none a=var:each1 b=var:each1.1 c=var:each1.2 e=var:each1.4",
		// STry
		"try { e(x) } catch e, x { e(x) }\ne(x)":     "e=none x=none e=var:try1 x=var:try1.1 e=none x=none",
		"let e\ntry { e() } catch e { e() }\ne()":    "e=var:let1 e=var:try2 e=var:let1",
		"try { let e } catch x { e() }":              "e=none",
		"try {} catch e { let e = e\ne() }":          "e=var:try1 e=var:let1",
		"try {} catch e {\ntry {e()} catch e {e()}}": "e=var:try1 e=var:try2",
		// EFn
		"x = fn(a, b) { a(b) }":                 "x=none a=var:param1 b=var:param1.1",
		"fn g(a) {}\na()":                       "a=none",
		"fn g(a) { let a = a\na() }":            "a=var:param1 a=var:let1",
		"fn g(g) { g() }":                       "g=var:param1",
		"fn g(a, ...) { a(...) }":               "a=var:param1",
		"fn g(...) { a(...) }":                  "a=none",
		"(fn(a) { a() })(a)":                    "a=var:param1 a=none",
		"fn g(a) { a() }\nfn h(b) { a(b) }":     "a=var:param1 a=none b=var:param2",
		"fn g(a) {\nreturn fn(a) { a() }, a }":  "a=var:param2 a=var:param1",
		"fn g(a) {\nreturn fn(b) { a(b) }, b }": "a=up:param1 b=var:param2 b=none",
	} {
		checkUses(t, text, want)
	}
}

// P3: of several same names of one declaration the last one counts.
func TestUsesOfNamesTwice(t *testing.T) {
	for text, want := range map[string]string{
		"let a, b, a\na(b)":                         "a=var:let1.2 b=var:let1.1",
		"let a, a\nlet a\na()":                      "a=var:let2",
		"let a\nlet b, a, a\na()":                   "a=var:let2.2",
		"fn g(a, a, b) { a(b) }":                    "a=var:param1.1 b=var:param1.2",
		"for a, a, a in {} { a() }":                 "a=var:each1.2",
		"try {} catch e, e { e() }":                 "e=var:try1.1",
		"x = fn(a, a) { return fn() { return a } }": "x=none a=up:param1.1",
	} {
		checkUses(t, text, want)
	}
}

// P3: a variable of the fn in which a name stands, of one around it, of the text; consts are consts in every fn.
func TestUsesInFns(t *testing.T) {
	for text, want := range map[string]string{
		"let a\nfn g() { a() }":                                                   "a=up:let1",
		"let a\nfn g() {\nlet b\nfn h() {\nlet c\na(b, c) } }":                    "a=up:let1 b=up:let3 c=var:let5",
		"fn g() { let a }\nfn h() { a() }":                                        "a=none",
		"let a\nx = fn() { return fn() { a = 1 } }":                               "x=none a=up:let1",
		"const A = 1\nfn g() { A()\nreturn fn() { return A } }":                   "A=const:const1 A=const:const1",
		"fn g() {\nconst A = 1\nx = fn() { A() } }\nA()":                          "x=none A=const:const2 A=none",
		"let a\nfn g() { a()\nlet a\na() }":                                       "a=up:let1 a=var:let3",
		"let a\nfn g(b) {\nif b { let a\na() } else { a() } }":                    "b=var:param2 a=var:let3 a=up:let1",
		"fn g(a) { for i = 1, 2 { try { a(i) } catch e { a(e) } } }":              "a=var:param1 i=var:for1 a=var:param1 e=var:try1",
		"let f = fn(f) { return f }":                                              "f=var:param1",
		"let f = fn() { return f }":                                               "f=none",
		"const F = fn() { return F }":                                             "F=none",
		"let a = {fn() { return a }, [fn(a) { return a }] = a}":                   "a=none a=var:param1 a=none",
		"let a\nif fn() { a() } { } elif fn() { a() } { a() }":                    "a=up:let1 a=up:let1 a=var:let1",
		"let a\ndefer a(fn(b) { a(b) })\nthrow a\nreturn a, -a, a.a, a[a], (a())": "a=var:let1 a=up:let1 b=var:param2 a=var:let1 a=var:let1 a=var:let1 a=var:let1 a=var:let1 a=var:let1 a=var:let1",
		"let a\nwhile a { let a\na() }":                                           "a=var:let1 a=var:let2",
		"let a\nx = {.a = a, a}":                                                  "x=none a=var:let1 a=var:let1",
	} {
		checkUses(t, text, want)
	}
}

// P3: each builtin by its number, unless its name is declared; names that are near to one are nothing.
func TestUsesOfBuiltins(t *testing.T) {
	for number, name := range plainBuiltins {
		x := textTree(t, "fn g() { "+name+"() }\nlet "+name+"\n"+name+"()\n")
		want := []impl.Use{{Part: 0, Kind: impl.UBuiltin, Decl: -1, Place: number}, {Part: 7, Kind: impl.UVar, Decl: 6}}
		if got := impl.Uses(x); !slices.Equal(got, want) {
			t.Errorf("%s: %v, want %v", name, got, want)
		}
	}
	if len(plainBuiltins) != impl.Builtins {
		t.Error(len(plainBuiltins))
	}
	for _, name := range []string{"Print", "prin", "printt", "_print", "print0", "set_kind", "get", "self", "main", "_", "x"} {
		checkUses(t, name+"()", name+"=none")
	}
	checkUses(t, "const print = print\nprint()", "print=builtin0 print=const:const1")
	checkUses(t, "fn print() { print() }", "print=up:fn1")
	checkUses(t, "fn g(yield) { yield() }\nyield()", "yield=var:param1 yield=builtin10")
	checkUses(t, "print = print", "print=builtin0 print=builtin0")
	checkUses(t, "for read in read { read() }", "read=builtin1 read=var:each1")
	checkUses(t, "{ let type }\ntype()", "type=builtin2")
}

// P3: the uses of trees by chance are those that a look outwards from each name finds.
func TestUsesByChance(t *testing.T) {
	t.Parallel()
	kinds := map[int]int{}
	for seed := range int64(3000) {
		x := namesTree(seed)
		kept := copiedTree(x)
		got, want := impl.Uses(x), plainUses(x)
		if !slices.Equal(got, want) {
			t.Fatalf("%s: %s, want %s", shortly(x), shortly(got), shortly(want))
		}
		for _, use := range got {
			kinds[use.Kind]++
		}
		if !sameTree(x, kept) {
			t.Fatalf("%s is changed", shortly(kept))
		}
	}
	for kind := range 5 {
		if kinds[kind] < 100 {
			t.Errorf("only %d uses of Kind %d", kinds[kind], kind)
		}
	}
}

// P3: every name of the greatest trees.
func TestUsesOfGreatTrees(t *testing.T) {
	// A fn in a fn is three parts deeper.
	const fns = 32
	deep := func(inner string) string {
		return strings.Repeat("fn g(a) {\n", fns) + inner + "\n" + strings.Repeat("}\n", fns)
	}
	checkUses(t, deep("a(g)"), "a=var:param32 g=up:fn32")
	checkUses(t, "let b\n"+deep("b(c)"), "b=up:let1 c=none")
	checkUses(t, "const B = 1\n"+deep("B(print)"), "B=const:const1 print=builtin0")

	names := strings.Join(someNames(200), ", ")
	x := textTree(t, "let "+names+"\nreturn "+names)
	uses := impl.Uses(x)
	if len(uses) != 200 {
		t.Fatal(len(uses))
	}
	for i, use := range uses {
		if use != (impl.Use{Part: 1 + i, Kind: impl.UVar, Decl: 0, Place: i}) {
			t.Errorf("%d: %v", i, use)
		}
	}
	long := strings.Repeat("n", 40)
	checkUses(t, "let "+long+"\n"+long+"()\n"+long[1:]+"()", long+"=var:let1 "+long[1:]+"=none")
	if got := impl.Uses(treeOf(wideSheet(3000))); len(got) != 0 {
		t.Error(got)
	}
}

// P3: a tree that is not sound has no uses and no consts.
func TestNamesOfUnsoundTrees(t *testing.T) {
	good := textTree(t, "let a = 1.5\nconst A = 2\na(A)\n")
	if len(impl.Uses(good)) != 2 || len(impl.Consts(good)) != 1 {
		t.Fatal(impl.Uses(good), impl.Consts(good))
	}
	last := len(good.Parts) - 1
	for what, spoil := range map[string]func(x *impl.Tree){
		"no parts":       func(x *impl.Tree) { x.Parts = nil },
		"no text":        func(x *impl.Tree) { x.Parts = x.Parts[:last] },
		"a line of 0":    func(x *impl.Tree) { x.Parts[1].Line = 0 },
		"a NaN":          func(x *impl.Tree) { x.Parts[0].Flt = math.NaN() },
		"a text":         func(x *impl.Tree) { x.Parts[0].Text = "1.5" },
		"a word":         func(x *impl.Tree) { x.Parts[1].Names[0] = "if" },
		"no name":        func(x *impl.Tree) { x.Parts[3].Names = nil },
		"a kid below 0":  func(x *impl.Tree) { x.Parts[last].Kids[0] = -1 },
		"a kid beyond":   func(x *impl.Tree) { x.Parts[3].Kids[0] = 99 },
		"a part by none": func(x *impl.Tree) { x.Parts[last].Kids = x.Parts[last].Kids[1:] },
		"a wrong order": func(x *impl.Tree) {
			x.Parts[last].Kids[0], x.Parts[last].Kids[1] = x.Parts[last].Kids[1], x.Parts[last].Kids[0]
		},
		"no kid": func(x *impl.Tree) { x.Parts[3].Kids = nil },
	} {
		x := copiedTree(good)
		spoil(&x)
		if fault := plainTreeFault(x); fault == (impl.Wrong{}) {
			t.Errorf("%s: it is sound", what)
		}
		if uses, consts := impl.Uses(x), impl.Consts(x); len(uses) != 0 || len(consts) != 0 {
			t.Errorf("%s: %v, %v", what, uses, consts)
		}
	}
	deep := treeOf(deepSheet(101))
	deep.Parts[0] = impl.Part{Kind: impl.SConst, Line: 1, Names: []string{"A"}}
	if len(impl.Consts(deep)) != 0 || len(impl.Uses(deep)) != 0 {
		t.Error("too deep")
	}
}
