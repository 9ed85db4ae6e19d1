package tests

import (
	"math/rand"
	"slices"
	"testing"

	"loop.example/heddle/impl"
)

// P3: what each statement becomes.
func TestBindStatements(t *testing.T) {
	for text, want := range map[string]string{
		"":                     "main:0 0+ [] [] block:1",
		"let a":                "main:0 0+ [a] [] block:1(let:1[0])",
		"let a = 1":            "main:0 0+ [a] [] block:1(let:1[0](1))",
		"\nlet a\n\nlet b = a": "main:0 0+ [a b] [] block:1(let:2[0] let:4[1](v0))",
		"let a, b = 1.5, \"s\", nil\nlet c = a, b, true, false, ...": `main:0 0+ [a b c] [] block:1(let:1[0 1](1.5f "s" nil) let:2[2](v0 v1 true false ...))`,
		"const A = 1\nconst B = 2\nreturn A, B":                      "main:0 0+ [] [] block:1(return:3(1 2))",
		"const A = 1":                                                "main:0 0+ [] [] block:1",
		"fn f() {}":                                                  "main:0 0+ [f] [] block:1(let:1[0] set:1/1(v0 fn1)); f:1 0 [] [] block:1",
		"fn f(a, b, ...) { return ..., a, b, f }\nf(1)":              "main:0 0+ [f] [] block:1(let:1[0] set:1/1(v0 fn1) do:2(call(v0 1))); f:1 2+ [a b] [.0] block:1(return:1(... v0 v1 u0))",
		"let a, b\na, b.c, b[1] = 1, 2\na = b":                       `main:0 0+ [a b] [] block:1(let:1[0 1] set:2/3(v0 at(v1 "c") at(v1 1) 1 2) set:3/1(v0 v1))`,
		"print()\nprint(1, 2)":                                       "main:0 0+ [] [] block:1(do:1(call(print)) do:2(call(print 1 2)))",
		"if 1 {} elif 2 { } else {\n}\nif 3 {}":                      "main:0 0+ [] [] block:1(if:1(1 block:1 if:1(2 block:1 block:1)) if:3(3 block:3))",
		"while true { break\nnext }":                                 "main:0 0+ [] [] block:1(while:1(true block:1(break:1 next:2)))",
		"for i = 1, 2 { print(i) }\nfor i = 1, 2, 3 { let a = i }": "main:0 0+ [i i a] [] block:1(for:1[0](1 2 1 block:1(do:1(call(print v0)))) " +
			"for:2[1](1 2 3 block:2(let:2[2](v1))))",
		"for k, v in print { print(k, v) }\nfor a, b, c, d in print {}": "main:0 0+ [k v a b c d] [] block:1(" +
			"each:1[0 1](print block:1(do:1(call(print v0 v1)))) each:2[2 3 4 5](print block:2))",
		"return":                 "main:0 0+ [] [] block:1(return:1)",
		"return 1, ..., print()": "main:0 0+ [] [] block:1(return:1(1 ... call(print)))",
		"try { let a } catch e { print(e) }\ntry {} catch e, m { print(e, m) }\nlet z": "main:0 0+ [a e _ e m z] [] block:1(" +
			"try:1[1 2](block:1(let:1[0]) block:1(do:1(call(print v1)))) try:2[3 4](block:2 block:2(do:2(call(print v3 v4)))) let:3[5])",
		"throw 1":        "main:0 0+ [] [] block:1(throw:1(1))",
		"defer print(1)": "main:0 0+ [] [] block:1(defer:1(call(print 1)))",
		"{ let a }\n{}":  "main:0 0+ [a] [] block:1(block:1(let:1[0]) block:2)",
	} {
		checkBind(t, text, want)
	}
}

// P3: what each expression becomes; of a table each entry a key and a value, and Op 1 when a call or ... stands last in it.
func TestBindExpressions(t *testing.T) {
	for expr, want := range map[string]string{
		"nil": "nil", "true": "true", "false": "false", "7": "7", "0.25": "0.25f", `"a\x00"`: `"a\x00"`, "...": "...", "print": "print", "cells": "cells",
		"1 and 2": "and(1 2)", "1 or 2": "or(1 2)", "-1": "op19(1)", "~1": "op20(1)", "not 1": "op21(1)", "#1": "op22(1)",
		"1 + 2": "op1(1 2)", "1 - 2": "op2(1 2)", "1 * 2": "op3(1 2)", "1 / 2": "op4(1 2)", "1 // 2": "op5(1 2)", "1 % 2": "op6(1 2)", "1 & 2": "op7(1 2)",
		"1 | 2": "op8(1 2)", "1 ~ 2": "op9(1 2)", "1 << 2": "op10(1 2)", "1 >> 2": "op11(1 2)", "1 .. 2": "op12(1 2)", "1 == 2": "op13(1 2)",
		"1 ~= 2": "op14(1 2)", "1 < 2": "op15(1 2)", "1 <= 2": "op16(1 2)", "1 > 2": "op17(1 2)", "1 >= 2": "op18(1 2)",
		"print[1]": "at(print 1)", "print.b": `at(print "b")`, "print.b.c": `at(at(print "b") "c")`, "print.b(1)": `call(at(print "b") 1)`,
		"print()": "call(print)", "print(1)(2, ...)": "call(call(print 1) 2 ...)", "(print())": "one(call(print))", "(...)": "one(...)",
		"{}": "table", "{1}": "table(1 1)", "{5, 6}": "table(1 5 2 6)", "{[5] = 6}": "table(5 6)", "{.a = 1}": `table("a" 1)`,
		"{5, .b = 6, 7, [8] = 9, 10}": `table(1 5 "b" 6 2 7 8 9 3 10)`, "{{1}, {}}": "table(1 table(1 1) 2 table)",
		"{print()}": "table+(1 call(print))", "{...}": "table+(1 ...)", "{(print())}": "table(1 one(call(print)))", "{(...)}": "table(1 one(...))",
		"{1, ...}": "table+(1 1 2 ...)", "{..., 1}": "table(1 ... 2 1)", "{.a = ...}": `table("a" ...)`, "{[...] = ...}": "table(... ...)",
		"{[1] = print(), ...}": "table+(1 call(print) 1 ...)", "{print(), .a = 1}": `table(1 call(print) "a" 1)`, "{[1] = print()}": "table(1 call(print))",
		"{print(), [1] = 2}": "table(1 call(print) 1 2)", "{{...}}": "table(1 table+(1 ...))", "{1 + print()}": "table(1 op1(1 call(print)))", "{print.a}": `table(1 at(print "a"))`,
	} {
		checkBind(t, "return "+expr, "main:0 0+ [] [] block:1(return:1("+want+"))")
	}
}

// P3: a const becomes the literal of its value, wherever it stands.
func TestBindConsts(t *testing.T) {
	checkBind(t, "const A = nil\nconst B = true\nconst C = false\nconst D = -7\nconst E = 0.5\nconst F = \"a\" .. 1\nconst G = cells\nconst H = B and D\nreturn A, B, C, D, E, F, G, H",
		`main:0 0+ [] [] block:1(return:9(nil true false -7 0.5f "a1" cells -7))`)
	checkBind(t, "const A = 1\nfn f() { const B = A + 1\nreturn fn() { return A, B, -A } }",
		"main:0 0+ [f] [] block:1(let:2[0] set:2/1(v0 fn1)); f:2 0 [] [] block:2(return:3(fn2)); :3 0 [] [] block:3(return:3(1 2 op19(1)))")
	checkBind(t, "const print = read\nprint(print, {print}, {[print] = print})", "main:0 0+ [] [] block:1(do:2(call(read read table(1 read) table(read read))))")
	checkBind(t, "const A = 1\nlet A = A\nreturn A", "main:0 0+ [A] [] block:1(let:2[0](1) return:3(v0))")
	checkBind(t, "const A = 0 / 0 == 0 / 0\nconst Z = -0.0\nreturn A, Z", "main:0 0+ [] [] block:1(return:3(false -0f))")
	for _, v := range literalValues() {
		var c constsTree
		c.literal(v)
		c.is("A")
		c.stats = append(c.stats, c.add(impl.Part{Kind: impl.SReturn, Line: 1}, c.name("A")))
		b := checkBindPlain(t, c.tree())
		if b.Code != 0 || !sameNode(b.Unit.Fns[0].Nodes[0], plainLiteral(v)) {
			t.Errorf("%s: %s", shortly(v), shortly(b))
		}
	}
}

// P3: a zero of the other sign in a field that is no float makes no float of it.
func TestBindSpareFloats(t *testing.T) {
	x := textTree(t, "let a = 5\nfn f(b) { return a.c, {b, .d = b}, \"s\", -0.0 }\nfor i = 1, 2 {}\n")
	want := impl.Bind(x)
	for n := range x.Parts {
		if x.Parts[n].Kind != impl.EFlt {
			x.Parts[n].Flt = minusZero
		}
	}
	if got := checkBindPlain(t, x); got.Code != 0 || !sameBound(got, want) {
		t.Error(got)
	}
}

// P3: fns are numbered as they begin, an outer one ahead of an inner one; names of SFns, lines, parameters.
func TestBindFns(t *testing.T) {
	for text, want := range map[string]string{
		"let a = fn() { return 1 }\nfn g() { return fn() { return 2 }, fn() { fn h() { return 3 } } }\nreturn fn() { return 4 }": "main:0 0+ [a g] [] block:1(let:1[0](fn1) let:2[1] set:2/1(v1 fn2) return:3(fn6)); " +
			":1 0 [] [] block:1(return:1(1)); g:2 0 [] [] block:2(return:2(fn3 fn4)); :2 0 [] [] block:2(return:2(2)); " +
			":2 0 [h] [] block:2(let:2[0] set:2/1(v0 fn5)); h:2 0 [] [] block:2(return:2(3)); :3 0 [] [] block:3(return:3(4))",
		"print(fn(a) {}, fn(...) {}, fn(a, b, ...) {\n})":                       "main:0 0+ [] [] block:1(do:1(call(print fn1 fn2 fn3))); :1 1 [a] [] block:1; :1 0+ [] [] block:1; :1 2+ [a b] [] block:1",
		"fn f(a, a) { return a }":                                               "main:0 0+ [f] [] block:1(let:1[0] set:1/1(v0 fn1)); f:1 2 [a a] [] block:1(return:1(v1))",
		"fn f() {}\nfn f() {}":                                                  "main:0 0+ [f f] [] block:1(let:1[0] set:1/1(v0 fn1) let:2[1] set:2/1(v1 fn2)); f:1 0 [] [] block:1; f:2 0 [] [] block:2",
		"fn f() {}\nf = f":                                                      "main:0 0+ [f] [] block:1(let:1[0] set:1/1(v0 fn1) set:2/1(v0 v0)); f:1 0 [] [] block:1",
		"return {fn() {}, [fn() {}] = fn() {}}, fn() {}":                        "main:0 0+ [] [] block:1(return:1(table(1 fn1 fn2 fn3) fn4)); :1 0 [] [] block:1; :1 0 [] [] block:1; :1 0 [] [] block:1; :1 0 [] [] block:1",
		"for i = fn() {}, fn(...) { return ... } {\nreturn fn() { return i } }": "main:0 0+ [i] [] block:1(for:1[0](fn1 fn2 1 block:1(return:2(fn3)))); :1 0 [] [] block:1; :1 0+ [] [] block:1(return:1(...)); :2 0 [] [.0] block:2(return:2(u0))",
		"try { return fn() {} } catch e { return fn() { return e } }":           "main:0 0+ [e _] [] block:1(try:1[0 1](block:1(return:1(fn1)) block:1(return:1(fn2)))); :1 0 [] [] block:1; :1 0 [] [.0] block:1(return:1(u0))",
	} {
		checkBind(t, text, want)
	}
	// The Line of a fn is that of its EFn, that of its statements that of its SFn.
	x := textTree(t, "fn f() {}")
	for n, kind := range []int{impl.SBlock, impl.EFn, impl.SFn, impl.SBlock} {
		if x.Parts[n].Kind != kind {
			t.Fatal(x)
		}
		x.Parts[n].Line = 10 * (n + 1)
	}
	if got := unitTold(checkBindPlain(t, x).Unit); got != "main:0 0+ [f] [] block:40(let:30[0] set:30/1(v0 fn1)); f:20 0 [] [] block:10" {
		t.Error(got)
	}
	x.Parts[1].Line = 0
	if got := unitTold(checkBindPlain(t, x).Unit); got != "main:0 0+ [f] [] block:40(let:30[0] set:30/1(v0 fn1)); f:0 0 [] [] block:10" {
		t.Error(got)
	}
}

// P3: Ups through one, two and three fns, in the order in which the walk first needs them, each once.
func TestBindUps(t *testing.T) {
	for text, want := range map[string]string{
		"let a\nfn f() { return a, a, -a }": "main:0 0+ [a f] [] block:1(let:1[0] let:2[1] set:2/1(v1 fn1)); f:2 0 [] [.0] block:2(return:2(u0 u0 op19(u0)))",
		"let a, b, c\nfn f() {\nfn g() {\nreturn c, a }\nreturn b, c }": "main:0 0+ [a b c f] [] block:1(let:1[0 1 2] let:2[3] set:2/1(v3 fn1)); " +
			"f:2 0 [g] [.2 .0 .1] block:2(let:3[0] set:3/1(v0 fn2) return:5(u2 u0)); g:3 0 [] [0 1] block:3(return:4(u0 u1))",
		"let a, b\nfn f() {\nlet x = b\nreturn fn() { return a, b } }": "main:0 0+ [a b f] [] block:1(let:1[0 1] let:2[2] set:2/1(v2 fn1)); " +
			"f:2 0 [x] [.1 .0] block:2(let:3[0](u0) return:4(fn2)); :4 0 [] [1 0] block:4(return:4(u0 u1))",
		"let a\nreturn fn(b) { return fn(c) { return fn(d) { return d, c, b, a } } }": "main:0 0+ [a] [] block:1(let:1[0] return:2(fn1)); " +
			":2 1 [b] [.0] block:2(return:2(fn2)); :2 1 [c] [.0 0] block:2(return:2(fn3)); :2 1 [d] [.0 0 1] block:2(return:2(v0 u0 u1 u2))",
		"let a\nreturn fn() { return fn() { return fn() { a = 1 } } }": "main:0 0+ [a] [] block:1(let:1[0] return:2(fn1)); " +
			":2 0 [] [.0] block:2(return:2(fn2)); :2 0 [] [0] block:2(return:2(fn3)); :2 0 [] [0] block:2(set:2/1(u0 1))",
		"fn f() { return f, fn() { return f } }": "main:0 0+ [f] [] block:1(let:1[0] set:1/1(v0 fn1)); f:1 0 [] [.0] block:1(return:1(u0 fn2)); :1 0 [] [0] block:1(return:1(u0))",
		"let a\nfn f() { let a\nreturn fn() { a = 1 } }\nfn g() { a = 1 }": "main:0 0+ [a f g] [] block:1(let:1[0] let:2[1] set:2/1(v1 fn1) let:4[2] set:4/1(v2 fn3)); " +
			"f:2 0 [a] [] block:2(let:2[0] return:3(fn2)); :3 0 [] [.0] block:3(set:3/1(u0 1)); g:4 0 [] [.0] block:4(set:4/1(u0 1))",
		"let a, a\nreturn a, fn() { return a }":             "main:0 0+ [a a] [] block:1(let:1[0 1] return:2(v1 fn1)); :2 0 [] [.1] block:2(return:2(u0))",
		"let a = 1\nlet a = a\nreturn fn() { return a }":    "main:0 0+ [a a] [] block:1(let:1[0](1) let:2[1](v0) return:3(fn1)); :3 0 [] [.1] block:3(return:3(u0))",
		"let a\nlet f = fn() { return a }\nlet a\nreturn a": "main:0 0+ [a f a] [] block:1(let:1[0] let:2[1](fn1) let:3[2] return:4(v2)); :2 0 [] [.0] block:2(return:2(u0))",
		"let a\nfn f() { a()\nlet a\nreturn a, fn() { return a } }": "main:0 0+ [a f] [] block:1(let:1[0] let:2[1] set:2/1(v1 fn1)); " +
			"f:2 0 [a] [.0] block:2(do:2(call(u0)) let:3[0] return:4(v0 fn2)); :4 0 [] [.0] block:4(return:4(u0))",
		"let a\nfn f() { a()\n{ let a\nreturn fn() { return a } } }\nreturn fn() { return f, a }": "main:0 0+ [a f] [] block:1(let:1[0] let:2[1] set:2/1(v1 fn1) return:5(fn3)); " +
			"f:2 0 [a] [.0] block:2(do:2(call(u0)) block:3(let:3[0] return:4(fn2))); :4 0 [] [.0] block:4(return:4(u0)); :5 0 [] [.1 .0] block:5(return:5(u0 u1))",
		"fn f(a) { for i = 1, 2 { try {} catch e { for k in a { let z\nreturn fn() { return z, k, e, i, a, f } } } } }": "main:0 0+ [f] [] block:1(let:1[0] set:1/1(v0 fn1)); " +
			"f:1 1 [a i e _ k z] [.0] block:1(for:1[1](1 2 1 block:1(try:1[2 3](block:1 block:1(each:1[4](v0 block:1(let:1[5] return:2(fn2)))))))); " +
			":2 0 [] [.5 .4 .2 .1 .0 0] block:2(return:2(u0 u1 u2 u3 u4 u5))",
		"try {} catch e {\nreturn fn() { return e } }\nlet z":    "main:0 0+ [e _ z] [] block:1(try:1[0 1](block:1 block:1(return:2(fn1))) let:3[2]); :2 0 [] [.0] block:2(return:2(u0))",
		"const A = 1\nlet a\nreturn fn() { return A, print, a }": "main:0 0+ [a] [] block:1(let:2[0] return:3(fn1)); :3 0 [] [.0] block:3(return:3(1 print u0))",
	} {
		checkBind(t, text, want)
	}
}

// P3: the order of variables: behind a statement's expressions, of a SFn ahead of its EFn, of a STry between its SBlocks.
func TestBindVars(t *testing.T) {
	for text, want := range map[string][]string{
		"for a = 1, 2 { let b\nfor c = 1, 2 { let d } }\nlet e":                              {"a", "b", "c", "d", "e"},
		"for a in print { fn b(x) { let y }\nfor c, d in print { let e } }":                  {"a", "b", "c", "d", "e"},
		"try { let a\ntry {} catch b { let c } } catch d { let e\ntry {} catch f, g {} }":    {"a", "b", "_", "c", "d", "_", "e", "f", "g"},
		"let a, b\nlet c = fn(x) { let y }, a\nconst K = 1\n{ let d\n{ let e } }\nfn f() {}": {"a", "b", "c", "d", "e", "f"},
		"if 1 { let a } elif 2 { let b } else { let c }\nwhile 1 { let d }\nlet a":           {"a", "b", "c", "d", "a"},
		"let a, a, a":                    {"a", "a", "a"},
		"try { } catch _ { }\nlet _ = 1": {"_", "_", "_"},
	} {
		x := textTree(t, text)
		if b := checkBindPlain(t, x); b.Code != 0 || !slices.Equal(b.Unit.Fns[0].Vars, want) {
			t.Errorf("%q: code %d, %v, want %v", text, b.Code, b.Unit.Fns, want)
		}
	}
	// The second variable of a STry with one name is no name in the text.
	checkBindFault(t, "try {} catch e { print(_) }", 2, "_")
}

// P3: the units of trees by chance are those that the words give; each is valid, and the answer is its own memory.
func TestBindByChance(t *testing.T) {
	t.Parallel()
	codes, locals := map[int]int{}, map[bool]int{}
	for seed := range int64(2500) {
		x := boundTree(seed, []int{0, 0, 0, 4, 12}[seed%5])
		if seed%10 == 9 {
			x = namesTree(seed)
		}
		b := checkBindPlain(t, x)
		codes[b.Code]++
		for _, fn := range b.Unit.Fns {
			for _, up := range fn.Ups {
				locals[up.Local]++
			}
		}
		if b.Code == 0 && impl.CheckUnit(b.Unit) != (impl.Fault{}) {
			t.Fatalf("%s is not valid: %v", unitTold(b.Unit), impl.CheckUnit(b.Unit))
		}
	}
	if codes[0] < 1000 || locals[true] < 500 || locals[false] < 500 || len(codes) < 6 {
		t.Error("too few of some:", codes, locals)
	}
	for seed := range int64(300) {
		x := boundTree(seed, 0)
		r := rand.New(rand.NewSource(seed))
		spoilTree(r, &x)
		checkBindPlain(t, x)
	}
}

// P3: the unit and the tree share no memory, nor do two lists of the unit.
func TestBindSharesNothing(t *testing.T) {
	for seed := range int64(200) {
		x := boundTree(seed, 0)
		kept := copiedTree(x)
		want := plainBind(x)
		got, closed := impl.Bind(x), impl.Closed(x)
		wantClosed := slices.Clone(closed)
		for n := range x.Parts {
			p := &x.Parts[n]
			for i := range p.Names {
				p.Names[i] = "changed"
			}
			for i := range p.Kids {
				p.Kids[i] = -99
			}
		}
		clear(x.Parts)
		if !sameBound(got, want) || !slices.Equal(closed, wantClosed) {
			t.Fatalf("what is bound of %s shares memory with it", shortly(kept))
		}
		x = copiedTree(kept)
		got = impl.Bind(x)
		if sharedInts(got.Unit) {
			t.Fatalf("two lists of %s share memory", unitTold(want.Unit))
		}
		overwriteUnit(got.Unit)
		if !sameTree(x, kept) {
			t.Fatalf("%s is changed", shortly(kept))
		}
	}
}
