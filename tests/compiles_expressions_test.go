package tests

import (
	"math"
	"slices"
	"strings"
	"testing"

	"loop.example/heddle/impl"
)

// P6: literals, the first of the arguments, and a new fn.
func TestCompileLeaves(t *testing.T) {
	for _, word := range []string{"nil", "true", "false", "0", "7", "9223372036854775807", "1.5", `"s"`, `""`, "print", "cells"} {
		checkBody(t, "throw "+word, "line 1; const 1 "+word+"; throw ~1")
	}
	checkBody(t, "throw ...", "line 1; pick 1 0 0; throw ~1")
	checkBody(t, "throw (...)", "line 1; copy 1 0; first 1 ~1; throw ~1")
	checkCompiled(t, "throw fn() {}", `proto main rest regs=2
		line 1; fn 1 1; throw ~1; list 1; return ~1
		proto _ line=1 regs=1
		list 0; return ~0`)
}

// P6: the list of further arguments stands behind the parameters.
func TestCompileRest(t *testing.T) {
	checkCompiled(t, "fn f(a, b, ...) {throw ...}\nfn g(...) {print(...)}\nfn h(a, ...) {return ..., {...}}", `proto main rest regs=5
		line 1; const 1 nil; line 1; fn 2 1; move 1 ~2
		line 2; const 2 nil; line 2; fn 3 2; move 2 ~3
		line 3; const 3 nil; line 3; fn 4 3; move 3 ~4
		drop 1; drop 2; drop 3; list 1; return ~1
		var f 1 2 15
		var g 2 7 15
		var h 3 12 15
		proto f line=1 params=2 rest regs=4
		line 1; pick 3 2 0; throw ~3; list 3; return ~3
		var a 0 0 5
		var b 1 0 5
		proto g line=2 rest regs=4
		line 2; const 1 print; list 2; copy 3 0; join 2 ~3; call 1 ~1 ~2; drop 1; list 1; return ~1
		proto h line=3 params=1 rest regs=6
		line 3; list 2; pick 3 1 0; add 2 ~3; table 3; const 4 1; copy 5 1; rawall 3 ~4 ~5; add 2 ~3; return ~2; list 2; return ~2
		var a 0 0 12`)
}

// P6: variables, plain and in boxes, of this fn and of those around it; boxes of parameters come ahead of all else, in their order.
func TestCompileVariables(t *testing.T) {
	checkCompiled(t, "let a, b = 1, 2\nlet f = fn() {return a}\nreturn a, b", `proto main rest regs=6
		line 1; list 3; const 4 1; add 3 ~4; const 4 2; add 3 ~4; pick 1 3 0; pick 2 3 1; drop 3; box 1 ~1
		line 2; fn 3 1
		line 3; list 4; get 5 1; add 4 ~5; move 5 2; add 4 ~5; return ~4
		drop 1; drop 2; drop 3; list 1; return ~1
		var a 1 10 19
		var b 2 10 19
		var f 3 12 19
		proto _ line=2 ups=r1 regs=2
		line 2; list 0; upget 1 0; add 0 ~1; return ~0; list 0; return ~0`)
	checkCompiled(t, "return fn(a, b, c, d, ...) {\nreturn fn() {d, b = a}, a, c\n}", `proto main rest regs=3
		line 1; list 1; fn 2 1; add 1 ~2; return ~1; list 1; return ~1
		proto _ line=1 params=4 rest regs=7
		box 0 ~0; box 1 ~1; box 3 ~3
		line 2; list 5; fn 6 2; add 5 ~6; get 6 0; add 5 ~6; move 6 2; add 5 ~6; return ~5
		list 5; return ~5
		var a 0 0 14
		var b 1 0 14
		var c 2 0 14
		var d 3 0 14
		proto _ line=2 ups=r3,r1,r0 regs=4
		line 2; list 2; upget 3 2; add 2 ~3; pick 0 2 0; pick 1 2 1; drop 2; upput 0 ~0; upput 1 ~1
		list 0; return ~0`)
}

// P6: Ups with Local are the homes of the variables, others are as they were; over three levels of fns.
func TestCompileUps(t *testing.T) {
	checkCompiled(t, lined("let x", "let a", "fn f(p) {", "let b", "return fn() {", "return fn() {return b, a, p}", "}", "}"), `proto main rest regs=5
		line 1; const 1 nil
		line 2; const 2 nil; box 2 ~2
		line 3; const 3 nil; line 3; fn 4 1; move 3 ~4
		drop 1; drop 2; drop 3; list 1; return ~1
		var x 1 2 10
		var a 2 5 10
		var f 3 7 10
		proto f line=3 params=1 ups=r2 regs=4
		box 0 ~0
		line 4; const 1 nil; box 1 ~1
		line 5; list 2; fn 3 2; add 2 ~3; return ~2
		drop 1; list 1; return ~1
		var p 0 0 12
		var b 1 4 9
		proto _ line=5 ups=r1,u0,r0 regs=2
		line 6; list 0; fn 1 3; add 0 ~1; return ~0; list 0; return ~0
		proto _ line=6 ups=u0,u1,u2 regs=2
		line 6; list 0; upget 1 0; add 0 ~1; upget 1 1; add 0 ~1; upget 1 2; add 0 ~1; return ~0; list 0; return ~0`)
}

// P6: and, or, one inside the other at either side.
func TestCompileAndOr(t *testing.T) {
	checkBody(t, "throw 1 and 2", "line 1; const 1 1; unless 1 @end; drop 1; const 1 2; end: throw ~1")
	checkBody(t, "throw 1 or 2", "line 1; const 1 1; if 1 @end; drop 1; const 1 2; end: throw ~1")
	checkBody(t, "throw (1 and 2) or 3", "line 1; const 1 1; unless 1 @in; drop 1; const 1 2; in: if 1 @end; drop 1; const 1 3; end: throw ~1")
	checkBody(t, "throw 1 and (2 or 3)", "line 1; const 1 1; unless 1 @end; drop 1; const 1 2; if 1 @in; drop 1; const 1 3; in: end: throw ~1")
	checkBody(t, "throw 4 + (1 and print())", `line 1; const 1 4; const 2 1; unless 2 @end; drop 2
		const 2 print; list 3; call 2 ~2 ~3; first 2 ~2; end: binary 1 add ~1 ~2; throw ~1`)
}

// P6: operations, each of them, and the order of their parts.
func TestCompileOperations(t *testing.T) {
	for op := 1; op <= 18; op++ {
		binary := twigOf(impl.Node{Kind: impl.NBinary, Op: op}, intTwig(1), twigOf(impl.Node{Kind: impl.NBinary, Op: 19 - op}, intTwig(2), intTwig(3)))
		u := impl.Unit{Fns: []impl.Fn{{Nodes: blockTwig(statTwig(impl.NThrow, nil, binary)).laid()}}}
		checkCompiledUnit(t, opWords[op], u, `proto _ regs=3
			line 1; const 0 1; const 1 2; const 2 3; binary 1 `+opWords[19-op]+` ~1 ~2; binary 0 `+opWords[op]+` ~0 ~1; throw ~0; list 0; return ~0`)
	}
	for op := 19; op <= 22; op++ {
		unary := twigOf(impl.Node{Kind: impl.NUnary, Op: op}, twigOf(impl.Node{Kind: impl.NUnary, Op: 41 - op}, intTwig(1)))
		u := impl.Unit{Fns: []impl.Fn{{Nodes: blockTwig(statTwig(impl.NThrow, nil, unary)).laid()}}}
		checkCompiledUnit(t, opWords[op], u, `proto _ regs=1
			line 1; const 0 1; unary 0 `+opWords[41-op]+` ~0; unary 0 `+opWords[op]+` ~0; throw ~0; list 0; return ~0`)
	}
	checkBody(t, "throw (1 - 2) * 3", "line 1; const 1 1; const 2 2; binary 1 sub ~1 ~2; const 2 3; binary 1 mul ~1 ~2; throw ~1")
}

// P6: places of things: one behind the other, and with a place as the key.
func TestCompileIndexes(t *testing.T) {
	checkBody(t, "throw (1)[2]", "line 1; const 1 1; const 2 2; index 1 ~1 ~2; throw ~1")
	checkBody(t, "throw print.a.b", `line 1; const 1 print; const 2 "a"; index 1 ~1 ~2; const 2 "b"; index 1 ~1 ~2; throw ~1`)
	checkBody(t, "throw print[(1)[2]]", "line 1; const 1 print; const 2 1; const 3 2; index 2 ~2 ~3; index 1 ~1 ~2; throw ~1")
}

// P6: calls, as one value and as many: only the last of the arguments gives all that it has, and in parentheses not that one.
func TestCompileCalls(t *testing.T) {
	checkBody(t, "throw print()", "line 1; const 1 print; list 2; call 1 ~1 ~2; first 1 ~1; throw ~1")
	checkBody(t, "throw (print())", "line 1; const 1 print; list 2; call 1 ~1 ~2; first 1 ~1; throw ~1")
	checkBody(t, "throw print(1, 2)", "line 1; const 1 print; list 2; const 3 1; add 2 ~3; const 3 2; add 2 ~3; call 1 ~1 ~2; first 1 ~1; throw ~1")
	checkBody(t, "throw print(read(), read())", `line 1; const 1 print; list 2
		const 3 read; list 4; call 3 ~3 ~4; first 3 ~3; add 2 ~3
		const 3 read; list 4; call 3 ~3 ~4; join 2 ~3
		call 1 ~1 ~2; first 1 ~1; throw ~1`)
	checkBody(t, "throw print((read()))", "line 1; const 1 print; list 2; const 3 read; list 4; call 3 ~3 ~4; first 3 ~3; add 2 ~3; call 1 ~1 ~2; first 1 ~1; throw ~1")
	checkBody(t, "throw print(..., ...)", "line 1; const 1 print; list 2; pick 3 0 0; add 2 ~3; copy 3 0; join 2 ~3; call 1 ~1 ~2; first 1 ~1; throw ~1")
	checkBody(t, "throw print((...))", "line 1; const 1 print; list 2; copy 3 0; first 3 ~3; add 2 ~3; call 1 ~1 ~2; first 1 ~1; throw ~1")
	checkBody(t, "throw read()(1)", "line 1; const 1 read; list 2; call 1 ~1 ~2; first 1 ~1; list 2; const 3 1; add 2 ~3; call 1 ~1 ~2; first 1 ~1; throw ~1")
}

// P6: tables; with Op 1 the last entry gives all that it has, with Op 0 it gives one value, whatever it is.
func TestCompileTables(t *testing.T) {
	checkBody(t, "throw {}", "line 1; table 1; throw ~1")
	checkBody(t, `throw {.x = 1, [2] = 3}`, `line 1; table 1; const 2 "x"; const 3 1; raw 1 ~2 ~3; const 2 2; const 3 3; raw 1 ~2 ~3; throw ~1`)
	checkBody(t, "throw {read(), read()}", `line 1; table 1
		const 2 1; const 3 read; list 4; call 3 ~3 ~4; first 3 ~3; raw 1 ~2 ~3
		const 2 2; const 3 read; list 4; call 3 ~3 ~4; rawall 1 ~2 ~3; throw ~1`)
	checkBody(t, "throw {..., ...}", "line 1; table 1; const 2 1; pick 3 0 0; raw 1 ~2 ~3; const 2 2; copy 3 0; rawall 1 ~2 ~3; throw ~1")
	checkBody(t, "throw {(...)}", "line 1; table 1; const 2 1; copy 3 0; first 3 ~3; raw 1 ~2 ~3; throw ~1")
	checkBody(t, "throw {.x = ...}", `line 1; table 1; const 2 "x"; pick 3 0 0; raw 1 ~2 ~3; throw ~1`)
	checkBody(t, "throw {{}, [{}] = {}}", "line 1; table 1; const 2 1; table 3; raw 1 ~2 ~3; table 2; table 3; raw 1 ~2 ~3; throw ~1")
	for op, want := range []string{"const 2 read; list 3; call 2 ~2 ~3; first 2 ~2; raw 0 ~1 ~2", "const 2 read; list 3; call 2 ~2 ~3; rawall 0 ~1 ~2"} {
		call := exprTwig(impl.NCall, twigOf(impl.Node{Kind: impl.NBuiltin, Num: 1}))
		table := twigOf(impl.Node{Kind: impl.NTable, Op: op}, intTwig(-5), call)
		u := impl.Unit{Fns: []impl.Fn{{Nodes: blockTwig(statTwig(impl.NThrow, nil, table)).laid()}}}
		checkCompiledUnit(t, "a table of one entry", u, "proto _ regs=4\nline 1; table 0; const 1 -5; "+want+"; throw ~0; list 0; return ~0")
	}
}

// P6: consts stand in the order in which they are wanted first, each once; what differs in its Kind or its bits is another one.
func TestCompileConsts(t *testing.T) {
	checkConsts := func(told string, want []impl.Value, kids ...*plainTwig) {
		t.Helper()
		c := compiled(t, told, impl.Unit{Fns: []impl.Fn{{Nodes: blockTwig(statTwig(impl.NReturn, nil, kids...)).laid()}}})
		if got := c.Protos[0].Consts; !slices.EqualFunc(got, want, sameValue) {
			t.Errorf("%s: %v, want %v", told, got, want)
		}
	}
	flt := func(f float64) *plainTwig { return twigOf(impl.Node{Kind: impl.NFlt, Flt: f}) }
	str := func(s string) *plainTwig { return twigOf(impl.Node{Kind: impl.NStr, Str: s}) }
	builtin := func(n int64) *plainTwig { return twigOf(impl.Node{Kind: impl.NBuiltin, Num: n}) }
	leaf := func(kind int) *plainTwig { return exprTwig(kind) }

	checkConsts("none", nil)
	checkConsts("the order", []impl.Value{vInt(3), vInt(1), vInt(2)}, intTwig(3), intTwig(1), intTwig(3), intTwig(2), intTwig(1))
	checkConsts("an int and a float", []impl.Value{vInt(1), vFlt(1), vInt(0), vFlt(0)}, intTwig(1), flt(1), intTwig(0), flt(0), flt(1), intTwig(1))
	checkConsts("zeros", []impl.Value{vFlt(minusZero), vFlt(0)}, flt(minusZero), flt(0), flt(minusZero), flt(0))
	checkConsts("floats", []impl.Value{vFlt(math.Inf(1)), vFlt(math.Inf(-1)), vFlt(least), vFlt(-least)}, flt(math.Inf(1)), flt(math.Inf(-1)), flt(math.Inf(1)), flt(least), flt(-least))
	checkConsts("texts", []impl.Value{vStr("a"), vStr("A"), vStr(""), vStr("a\x00")}, str("a"), str("A"), str(""), str("a\x00"), str(strings.Clone("a")))
	checkConsts("of one number", []impl.Value{vBool(false), vBuiltin(0), vInt(0), {}, vFlt(0), vStr("")}, leaf(impl.NFalse), builtin(0), intTwig(0), leaf(impl.NNil), flt(0), str(""), leaf(impl.NNil))
	checkConsts("of number 1", []impl.Value{vBuiltin(1), vBool(true), vInt(1)}, builtin(1), leaf(impl.NTrue), intTwig(1), leaf(impl.NTrue))

	// Other fields of a node may be a zero with a minus: a const that is no float has none.
	odd := twigOf(impl.Node{Kind: impl.NInt, Num: 4, Flt: minusZero})
	checkConsts("a zero in a field that is not used", []impl.Value{vInt(4)}, odd, intTwig(4))

	// Each proto has consts of its own.
	c := compiled(t, "two fns", boundText(t, "let a = 1, 2\nreturn fn() {return 2, 1}"))
	for n, want := range [][]impl.Value{{vInt(1), vInt(2)}, {vInt(2), vInt(1)}} {
		if got := c.Protos[n].Consts; !slices.EqualFunc(got, want, sameValue) {
			t.Errorf("proto %d: %v, want %v", n, got, want)
		}
	}
}
