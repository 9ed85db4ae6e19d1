package tests

import (
	"cmp"
	"fmt"
	"math/rand"
	"slices"
	"strings"
	"testing"

	"loop.example/heddle/impl"
)

// plainAdvice: all notes that there might be, each asked by itself, in their order.
func plainAdvice(x impl.Tree) []impl.Note {
	if plainTreeFault(x) != (impl.Wrong{}) {
		return nil
	}
	b := newPlainBinder(x)
	var notes []impl.Note
	for n, p := range x.Parts {
		for place := range max(1, len(p.Names)) {
			for code := 1; code <= 6; code++ {
				if b.hasNote(n, place, code) {
					notes = append(notes, impl.Note{Part: n, Place: place, Code: code})
				}
			}
		}
	}
	return notes
}

func (b *plainBinder) hasNote(n, place, code int) bool {
	p := b.parts[n]
	if code == 4 || code == 5 {
		return place == 0 && b.parents[n] >= 0 && b.hasNoteByParent(n, code)
	}
	if len(p.Names) == 0 {
		return false
	}
	name := p.Names[place]
	if code == 3 {
		return slices.Index(p.Names, name) == place && b.isAgain(n, name)
	}
	all, targets := 0, 0
	for part, use := range b.uses {
		if use.Decl == n && use.Place == place {
			all++
			if b.isTarget(part) {
				targets++
			}
		}
	}
	isConst := p.Kind == impl.SConst
	switch {
	case name[0] == '_':
		return false
	case code == 6:
		return isConst && all == targets
	case code == 1:
		return !isConst && all == 0
	}
	return !isConst && all > 0 && all == targets
}

func (b *plainBinder) hasNoteByParent(n, code int) bool {
	parent := b.parts[b.parents[n]]
	at := slices.Index(parent.Kids, n)
	if code == 5 {
		return parent.Kind == impl.SIf && at == 0 && b.values.value(n).Code == 0
	}
	if parent.Kind != impl.SBlock || at == 0 {
		return false
	}
	return slices.Contains([]int{impl.SReturn, impl.SBreak, impl.SNext, impl.SThrow}, b.parts[parent.Kids[at-1]].Kind)
}

// isAgain: whether a name that stood where part n stands were declared by another part of the same fn.
func (b *plainBinder) isAgain(n int, name string) bool {
	for kid := n; b.parents[kid] >= 0; kid = b.parents[kid] {
		for _, holder := range plainHolders(b.parts, b.parents[kid], kid) {
			if holder != n && plainDeclares(b.parts[holder], name) >= 0 {
				return b.homeOf(holder) == b.homeOf(n)
			}
		}
	}
	return false
}

// adviceTold: each note as its code, the word and Line of its part (of an expression the text), and behind a point the place if that is not 0.
func adviceTold(text string, x impl.Tree) string {
	var told []string
	for _, note := range impl.Advice(x) {
		p := x.Parts[note.Part]
		one := fmt.Sprint(note.Code, ":")
		if word := declarers[p.Kind]; word != "" {
			one += fmt.Sprint(word, p.Line)
		} else {
			one += strings.ReplaceAll(text[p.From:p.To], " ", "")
		}
		if note.Place != 0 {
			one += fmt.Sprint(".", note.Place)
		}
		told = append(told, one)
	}
	return strings.Join(told, " ")
}

func checkAdvicePlain(t *testing.T, x impl.Tree) []impl.Note {
	t.Helper()
	kept := copiedTree(x)
	got, want := impl.Advice(x), plainAdvice(x)
	if !slices.Equal(got, want) {
		t.Fatalf("%s: %s, want %s", shortly(x), shortly(got), shortly(want))
	}
	if !sameTree(x, kept) {
		t.Fatalf("%s is changed", shortly(kept))
	}
	return got
}

func checkAdvice(t *testing.T, text, want string) {
	t.Helper()
	x := textTree(t, text)
	if got := adviceTold(text, x); got != want {
		t.Errorf("%q: %s, want %s", text, got, want)
	}
	checkAdvicePlain(t, x)
}

// P3: variables that nobody uses, and those that are only targets.
func TestAdviceOfVariables(t *testing.T) {
	for text, want := range map[string]string{
		"":                             "",
		"let a":                        "1:let1",
		"let a\na()":                   "",
		"let a, b, c\nb()":             "1:let1 1:let1.2",
		"let a\na = 1":                 "2:let1",
		"let a\na = 1\na = 2":          "2:let1",
		"let a\na = a":                 "",
		"let a\na = 1\na()":            "",
		"let a\na.b = 1":               "",
		"let a\na[1] = 2":              "",
		"let a, b\nb[a] = 1":           "",
		"let a, b\na, b = 1":           "2:let1 2:let1.1",
		"let a\nfn f() { a = 1 }\nf()": "2:let1",
		"let a\nfn f() { a() }\nf()":   "",
		"let _a, _, a_\n":              "1:let1.2",
		"let _a\n_a = 1":               "",
		"let a, a\na()":                "1:let1",
		"let a, a\na = 1":              "1:let1 2:let1.1",
		"let a\n{ let a\na() }":        "1:let1 3:let2",
		"fn f() {}":                    "1:fn1",
		"fn _f() {}":                   "",
		"fn f() { f() }":               "",
		"fn f() { f = 1 }":             "2:fn1",
		"fn f() {}\nf = 1":             "2:fn1",
		"fn f() {}\nf()":               "",
		"fn f() {}\nlet g = f\ng()":    "",
		"print(fn(a, b) { b() })":      "1:param1",
		"print(fn(a, b) { a = b })":    "2:param1",
		"print(fn(_a, b) { b = 1 })":   "2:param1.1",
		"for i = 1, 2 { }":             "1:for1",
		"for i = 1, 2 { i() }":         "",
		"for i = 1, 2 { i = 1 }":       "2:for1",
		"for k, v in print { k() }":    "1:each1.1",
		"for _, v in print { v() }":    "",
		"try { } catch e { }":          "1:try1",
		"try { } catch e { e() }":      "",
		"try { } catch e, m { m() }":   "1:try1",
		"try { } catch _ { }":          "",
		"let a = a\n":                  "1:let1",
		"let a\nconst B = a\nprint(B)": "",
		"a = 1\nb()":                   "",
		"let print\nread()":            "1:let1",
		"let a\nprint(fn(a) { a() })":  "1:let1",
		"let a\ndefer a()":             "",
		"let a\nif a {}":               "",
	} {
		checkAdvice(t, text, want)
	}
}

// P3: consts that nobody uses, or that are only targets.
func TestAdviceOfConsts(t *testing.T) {
	for text, want := range map[string]string{
		"const A = 1":                            "6:const1",
		"const A = 1\nprint(A)":                  "",
		"const A = 1\nA = 2":                     "6:const1",
		"const A = 1\nA = A":                     "",
		"const A = 1\nA.b = 2":                   "",
		"const _A = 1":                           "",
		"const A = 1\nconst B = A":               "6:const2",
		"const A = A":                            "6:const1",
		"const A = print()":                      "6:const1",
		"const A = 1\nfn _f() { return A }":      "",
		"const A = 1\nfn _f(A) { return A }":     "6:const1",
		"const A = 1\nconst A = 2\nprint(A)":     "6:const1 3:const2",
		"const A = 1\nlet A\nA()":                "6:const1 3:let2",
		"let A\nconst A = 1\nprint(A)":           "1:let1 3:const2",
		"const A = 1\nif A {}":                   "5:A",
		"const A = {}\nif A {}":                  "",
		"const A = 0 / 0\nif A {}":               "",
		"const A = 1\nconst B = A\nif B == A {}": "5:B==A",
	} {
		checkAdvice(t, text, want)
	}
}

// P3: names that are declared where they are declared already, in the same fn.
func TestAdviceOfNamesAgain(t *testing.T) {
	for text, want := range map[string]string{
		"let a\nlet a = a\na()":                                              "3:let2",
		"let _a\nlet _a":                                                     "3:let2",
		"let a, _b = 1\na()\n{\nlet _b, a\na() }":                            "3:let4 3:let4.1",
		"let a, a\na()":                                                      "1:let1",
		"let a\na()\nlet a, b, a\na(b)":                                      "1:let3 3:let3",
		"let a, b\na(b)\nlet b, a, a, b\na(b)":                               "1:let3 3:let3 1:let3.1 3:let3.1",
		"{ let a\na() }\nlet a\na()":                                         "",
		"let a\na()\n{ {\nlet a\na() } }":                                    "3:let4",
		"let a\na()\nif 1 + a { let a\na() } else { let a\na() }":            "3:let3 3:let4",
		"let a\na()\nwhile a {\nlet a\na() }":                                "3:let4",
		"let a\na()\nfn f() { let a\na() }\nf()":                             "",
		"let a\na()\nfn f(a) { a() }\nf()":                                   "",
		"fn f(a) { a()\nlet a\na() }\nf()":                                   "3:let2",
		"fn f(a, a) { a() }\nf()":                                            "1:param1",
		"fn f() { let f\nf() }\nf()":                                         "",
		"fn f() { f() }\nfn f() { f() }":                                     "3:fn2",
		"let f\nf()\nfn f() { f() }":                                         "3:fn3",
		"fn f() { f() }\nlet f\nf()":                                         "3:let2",
		"let i\ni()\nfor i = i, 2 { i() }":                                   "3:for3",
		"for i = 1, 2 { i()\nlet i\ni() }":                                   "3:let2",
		"for i = 1, 2 { i()\nfor i = 1, 2 { i() } }":                         "3:for2",
		"for i = 1, 2 { i() }\nfor i = 1, 2 { i() }":                         "",
		"let k, v\nk(v)\nfor v, k in print { k(v) }":                         "3:each3 3:each3.1",
		"for a, a in print { a() }":                                          "1:each1",
		"let e\ne()\ntry { } catch e { e() }":                                "3:try3",
		"try { let e\ne() } catch e { e() }":                                 "",
		"try { } catch e, e { e() }":                                         "1:try1",
		"let a\na()\nprint(fn() { for a = 1, 2 { a() } })":                   "",
		"print(fn(a) { a()\nprint(fn() { let a\na() }) })":                   "",
		"print(fn(a) { a()\nprint(fn(a) { a()\nlet a\na() }) })":             "3:let3",
		"let print\nprint()":                                                 "",
		"const A = 1\nprint(A)\nfn f() { const A = 2\nprint(A) }\nf()":       "",
		"const A = 1\nprint(A)\n{ const A = 2\nprint(A) }":                   "3:const3",
		"fn f() { const A = 1\nprint(A)\nfor A in print { A() } }\nf()":      "3:each3",
		"let a = fn() { let a\na() }\na()":                                   "",
		"let x\nx()\nlet y = fn() { let y\nlet x\nx(y) }\ny()":               "",
		"let a\na()\nprint(fn() { let b\nb()\nprint(fn() { let a\na() }) })": "",
		"let a\na()\nprint(fn() { a()\nlet a\na()\n{ let a\na() } })":        "3:let6",
	} {
		checkAdvice(t, text, want)
	}
}

// P3: what stands just behind a statement that ends its block.
func TestAdviceBehindEnds(t *testing.T) {
	for text, want := range map[string]string{
		"return\nprint()":                               "4:print()",
		"throw 1\nprint()":                              "4:print()",
		"while ... { break\nprint() }":                  "4:print()",
		"while ... { next\nprint() }":                   "4:print()",
		"next\nbreak":                                   "4:break",
		"return\nprint()\nread()":                       "4:print()",
		"return\nthrow 1\nprint()":                      "4:throw1 4:print()",
		"return\nreturn\nreturn 1":                      "4:return 4:return1",
		"print()\nreturn":                               "",
		"return":                                        "",
		"{ return }\nprint()":                           "",
		"if ... { return }\nprint()":                    "",
		"if ... { return } else { print() }":            "",
		"while ... { break }\nprint()":                  "",
		"try { return } catch _e { print() }\nprint()":  "",
		"defer print()\nprint()":                        "",
		"fn _f() { return\n{} }":                        "4:{}",
		"return\nlet a":                                 "1:let2 4:let2",
		"let a\na()\nreturn\nlet b, a\n":                "1:let4 4:let4 1:let4.1 3:let4.1",
		"let a\na()\nreturn\nlet a, a\n":                "1:let4 3:let4 4:let4 1:let4.1",
		"return\nconst A = 1":                           "4:const2 6:const2",
		"const A = 1\nprint(A)\nreturn\nconst A = 1":    "3:const4 4:const4 6:const4",
		"return\nfn f() { }":                            "1:fn2 4:fn2",
		"let a\na()\nthrow a\nfor a = 1, 2 { a = 1 }\n": "2:for4 3:for4 4:for4",
		"return\n{ print()\nprint() }\nprint()":         "4:{print()\nprint()}",
	} {
		checkAdvice(t, text, want)
	}
}

// P3: first kids of SIfs that can be worked out.
func TestAdviceOfIfs(t *testing.T) {
	for text, want := range map[string]string{
		"if true { }":                        "5:true",
		"if nil { } elif 1 < 2 { } else { }": "5:nil 5:1<2",
		"if 0 / 0 { }":                       "5:0/0",
		"if -(0 / 0) == 1 { }":               "5:-(0/0)==1",
		"if 1 // 0 { }":                      "",
		"if nil + 1 { }":                     "",
		"if print { }":                       "5:print",
		"if print == read or 1 { }":          "5:print==reador1",
		"if nil and print() { }":             "",
		"if true or ... { }":                 "",
		"if ... { }":                         "",
		"if (...) { }":                       "",
		"if print() { }":                     "",
		"if {} { }":                          "",
		"if fn() {} { }":                     "",
		"if \"a\" .. 1 { }":                  "5:\"a\"..1",
		"let a\nif a { if a or 1 { } } elif a { }":  "",
		"let a\nif a { if 1 { } } elif not nil { }": "5:1 5:notnil",
		"while true { }":                    "",
		"for i = 1, 2 { if 1 { i() } }":     "5:1",
		"const A = 1\nfn _f() { if A { } }": "5:A",
		"let print\nif print { }":           "",
		"if zz { }":                         "",
		"return\nif 1 { }":                  "5:1 4:if1{}",
	} {
		checkAdvice(t, text, want)
	}
}

// P3: notes of trees that cannot be bound, and of ones by chance, are those that the words give, in their order.
func TestAdviceByChance(t *testing.T) {
	t.Parallel()
	codes := map[int]int{}
	for seed := range int64(2500) {
		x := boundTree(seed, 10)
		switch seed % 3 {
		case 0:
			x = namesTree(seed)
		case 1:
			x = literalRich(seed)
		}
		r := rand.New(rand.NewSource(seed))
		for n := range x.Parts {
			for i := range x.Parts[n].Names {
				if r.Intn(12) == 0 {
					x.Parts[n].Names[i] = "_" + x.Parts[n].Names[i]
				}
			}
		}
		notes := checkAdvicePlain(t, x)
		for _, note := range notes {
			codes[note.Code]++
		}
		if !slices.IsSortedFunc(notes, func(a, b impl.Note) int {
			return cmp.Or(a.Part-b.Part, a.Place-b.Place, a.Code-b.Code)
		}) {
			t.Fatal(notes)
		}
	}
	for code := 1; code <= 6; code++ {
		if codes[code] < 50 {
			t.Error("too few of some:", codes)
		}
	}
}

// P3: a tree that is not sound has no notes.
func TestAdviceOfUnsoundTrees(t *testing.T) {
	for seed := range int64(300) {
		r := rand.New(rand.NewSource(seed))
		x := namesTree(seed)
		spoilTree(r, &x)
		checkAdvicePlain(t, x)
	}
	x := textTree(t, "let a\nif 1 { }")
	if len(impl.Advice(x)) != 2 {
		t.Fatal(impl.Advice(x))
	}
	x.Parts[0].Line = 0
	if got := impl.Advice(x); len(got) != 0 {
		t.Error(got)
	}
	if got := impl.Advice(impl.Tree{}); len(got) != 0 {
		t.Error(got)
	}
}
