package tests

import (
	"fmt"
	"math"
	"math/rand"
	"slices"
	"strings"
	"testing"

	"loop.example/heddle/impl"
)

// P3: what can be worked out, and what can't.
func TestConstsOfExpressions(t *testing.T) {
	for expr, want := range map[string]string{
		"nil": "nil", "true": "true", "false": "false", "7": "int 7", "-7": "int -7", "0xffffffffffffffff": "int -1", "1.5": "flt 1.5", "1e999": "flt +Inf",
		`""`: "str ", `"a\x00b"`: "str a\x00b", "print": "builtin 0", "cells": "builtin 14",
		"...": "!", "a": "!", "f()": "!", "(f())": "!", "(...)": "!", "{}": "!", "fn() {}": "!", "print.a": "!", `("a").b`: "!", `("a")[1]`: "!", "print()": "!",
		"1 + 2": "int 3", "(1 + 2) * 3": "int 9", "1 + a": "!", "a + 1": "!", "1 + f()": "!", "-a": "!", "not a": "!", "#a": "!",
		"7 // 2": "int 3", "7 // 0": "!", "7 % 0": "!", "7.0 // 0": "flt +Inf", "7 / 2": "flt 3.5", "1 / 0": "flt +Inf", "-1 / 0": "flt -Inf",
		"0 / 0": "!", "0.0 / 0": "!", "-(0 / 0)": "!", "1e999 - 1e999": "!", "7.0 % 0": "!",
		"0 / 0 == 0 / 0": "false", "0 / 0 ~= 0 / 0": "true", "0 / 0 < 1": "false", `0 / 0 .. ""`: "str nan", "not (0 / 0)": "false", "#(0 / 0 .. 1)": "int 4",
		"0 / 0 and 1": "int 1", "1 and 0 / 0": "!", "0 / 0 or 1": "!", "1 or 0 / 0": "int 1", "nil and 0 / 0": "nil",
		"1 << 63": "int -9223372036854775808", "1 << 64": "int 0", "1 << -1": "!", "1 >> -1": "!", "-1 >> 1": "int 9223372036854775807", "1 << 1.0": "!",
		"9223372036854775807 + 1": "int -9223372036854775808", "~0": "int -1", "~1.0": "!", "5 & 6 | 8": "int 12", "5 ~ 6": "int 3",
		`"a" .. "b" .. 1 .. 0.5`: "str ab11p-1", `"a" .. nil`: "!", `"a" .. print`: "!", `#"abc"`: "int 3", "#7": "!", "#print": "!", `-"7"`: "!",
		`"a" < "b"`: "true", `"a" < 1`: "!", "1 < 1.5": "true", "nil < nil": "!", "nil == false": "false", "1 == 1.0": "true", "print == print": "true", "print == read": "false",
		"not nil": "true", "not 0": "false", "not print": "false", "- -1": "int 1", "-0.0": "flt -0", "0.0": "flt 0", "1 / -0.0": "flt -Inf",
	} {
		checkConsts(t, "const A = "+expr, "A="+want)
	}
}

// P3: EAnd and EOr need both; the first one when it settles the whole, else the second.
func TestConstsOfAndOr(t *testing.T) {
	falses, trues := []string{"nil", "false"}, []string{"true", "0", "0.0", "-0.0", `""`, "print", "1"}
	told := map[string]string{"nil": "nil", "false": "false", "true": "true", "0": "int 0", "0.0": "flt 0", "-0.0": "flt -0", `""`: "str ", "print": "builtin 0", "1": "int 1"}
	for _, right := range append(slices.Clone(falses), trues...) {
		for _, left := range falses {
			checkConsts(t, "const A = "+left+" and "+right, "A="+told[left])
			checkConsts(t, "const A = "+left+" or "+right, "A="+told[right])
		}
		for _, left := range trues {
			checkConsts(t, "const A = "+left+" and "+right, "A="+told[right])
			checkConsts(t, "const A = "+left+" or "+right, "A="+told[left])
		}
	}
	for _, left := range append(slices.Clone(falses), trues...) {
		for _, none := range []string{"a", "f()", "...", "1 // 0", "{}", "fn() {}", "1 << -1", "nil + 1"} {
			for _, op := range []string{" and ", " or "} {
				checkConsts(t, "const A = "+left+op+"("+none+")", "A=!")
				checkConsts(t, "const A = ("+none+")"+op+left, "A=!")
			}
		}
	}
	checkConsts(t, "const A = nil or false or 2 and 3 or a", "A=!")
	checkConsts(t, "const A = nil or false or 2 and 3 or 4", "A=int 3")
}

// P3: consts of consts, in the order of the parts.
func TestConstsOfConsts(t *testing.T) {
	for text, want := range map[string]string{
		"const A = 1\nconst B = A + 1\nconst C = B * B\nf(C)":                       "A=int 1; B=int 2; C=int 4",
		"const B = A\nconst A = 1\nconst C = A":                                     "B=!; A=int 1; C=int 1",
		"const A = A":                                                               "A=!",
		"const A = 1\nconst A = A + 1\nconst B = A\nconst A = \"x\"":                "A=int 1; A=int 2; B=int 2; A=str x",
		"const A = f()\nconst B = A\nconst C = A == A\nconst D = A or 1":            "A=!; B=!; C=!; D=!",
		"const A = 0 / 0\nconst B = A\nconst C = A == A":                            "A=!; B=!; C=!",
		"const A = 1 // 0\nconst B = not A":                                         "A=!; B=!",
		"let a = 1\nconst A = a":                                                    "A=!",
		"const A = 1\nlet A = 2\nconst B = A":                                       "A=int 1; B=!",
		"let A = 2\nconst A = 1\nconst B = A":                                       "A=int 1; B=int 1",
		"const A = 1\nfn A() {}\nconst B = A":                                       "A=int 1; B=!",
		"const A = 1\n{\nlet A\nconst B = A\n}\nconst C = A":                        "A=int 1; B=!; C=int 1",
		"const A = 1\n{\nconst B = A\nlet A\nconst C = A\n}":                        "A=int 1; B=int 1; C=!",
		"const A = 1\n{\nconst A = 2\nconst B = A\n}\nconst C = A":                  "A=int 1; A=int 2; B=int 2; C=int 1",
		"{ const A = 1 }\nconst B = A":                                              "A=int 1; B=!",
		"const A = 1\nfn f(a) { const B = A + 1\nreturn fn() { const C = B + A } }": "A=int 1; B=int 2; C=int 3",
		"const A = 1\nfn f(A) { const B = A }":                                      "A=int 1; B=!",
		"const A = 1\nfor A = 1, 2 { const B = A }":                                 "A=int 1; B=!",
		"const A = 1\nfor A in f() { const B = A }\nconst C = A":                    "A=int 1; B=!; C=int 1",
		"const A = 1\ntry { const B = A } catch A { const C = A }":                  "A=int 1; B=int 1; C=!",
		"const A = fn() { const B = 2\nconst C = A }\nconst D = A":                  "B=int 2; C=!; A=!; D=!",
		"const A = 1\nconst B = fn() { const C = A }":                               "A=int 1; C=int 1; B=!",
		"if true { const A = 1 } elif f { const B = 2 } else { const C = A }":       "A=int 1; B=int 2; C=!",
		"while true { const A = \"s\" }":                                            "A=str s",
		"const print = print\nconst B = print":                                      "print=builtin 0; B=builtin 0",
		"const P = print\nconst B = P == print\nconst C = P and nil":                "P=builtin 0; B=true; C=nil",
		"let print\nconst A = print":                                                "A=!",
		"const read = 5\nconst A = read + 1":                                        "read=int 5; A=int 6",
		"fn g() { const type = type\nconst A = type }":                              "type=builtin 2; A=builtin 2",
		"":          "",
		"let a = 1": "",
	} {
		checkConsts(t, text, want)
	}
}

// P3: every operation with every pair of values of every Kind that a literal or a builtin has, NaN too.
func TestConstsOfEveryOperation(t *testing.T) {
	values := literalValues()
	nan := len(values) // stands for an infinity less itself
	for a := range nan + 1 {
		var c constsTree
		for op := 18; op <= 23; op++ {
			if op >= impl.OpNeg && op <= impl.OpLen {
				c.add(impl.Part{Kind: impl.EUnary, Op: op}, c.operand(values, a))
				c.is("A")
			}
		}
		checkConstsPlain(t, c.tree())
		for b := range nan + 1 {
			var c constsTree
			for op := impl.OpAdd; op <= impl.OpGe; op++ {
				x := c.operand(values, a)
				c.add(impl.Part{Kind: impl.EBinary, Op: op}, x, c.operand(values, b))
				c.is("A")
			}
			for _, kind := range []int{impl.EAnd, impl.EOr} {
				x := c.operand(values, a)
				c.add(impl.Part{Kind: kind}, x, c.operand(values, b))
				c.is("A")
			}
			checkConstsPlain(t, c.tree())
		}
	}
}

// operand: the literal of a value, or what gives a NaN behind the last one.
func (c *constsTree) operand(values []impl.Value, i int) int {
	if i < len(values) {
		return c.literal(values[i])
	}
	x := c.literal(vFlt(math.Inf(1)))
	return c.add(impl.Part{Kind: impl.EBinary, Op: impl.OpSub}, x, c.literal(vFlt(math.Inf(1))))
}

// P3: a literal gives itself, to the last bit.
func TestConstsOfLiterals(t *testing.T) {
	for _, v := range literalValues() {
		var c constsTree
		c.literal(v)
		c.is("A")
		want := []impl.Const{{Part: 1, Value: v}}
		if got := impl.Consts(c.tree()); !slices.EqualFunc(got, want, sameConst) {
			t.Errorf("%s: %s", shortly(v), shortly(got))
		}
	}
	// A zero of the other sign in a field that is no float is no part of the value.
	x := impl.Tree{Parts: []impl.Part{
		{Kind: impl.EInt, Num: 5, Flt: minusZero}, {Kind: impl.SConst, Line: 1, Names: []string{"A"}, Kids: []int{0}}, {Kind: impl.SBlock, Line: 1, Kids: []int{1}},
	}}
	if got := impl.Consts(x); len(got) != 1 || !sameConst(got[0], impl.Const{Part: 1, Value: vInt(5)}) {
		t.Error(got)
	}
}

// P3: joined strings of at most 4000 bytes, and one more.
func TestConstsOfLongStrings(t *testing.T) {
	join := func(a, b impl.Value) []impl.Const {
		var c constsTree
		x := c.literal(a)
		c.add(impl.Part{Kind: impl.EBinary, Op: impl.OpJoin}, x, c.literal(b))
		c.is("A")
		x = c.name("A")
		c.add(impl.Part{Kind: impl.EBinary, Op: impl.OpJoin}, x, c.literal(vStr("")))
		c.is("B")
		return impl.Consts(c.tree())
	}
	long := func(size int) impl.Value { return vStr(strings.Repeat("x", size)) }
	for _, c := range []struct {
		a, b impl.Value
		size int
	}{
		{long(2000), long(2000), 4000}, {long(2000), long(2001), 4001}, {long(4000), vStr(""), 4000}, {vStr(""), long(4000), 4000},
		{long(4000), vStr("y"), 4001}, {long(4000), long(4000), 8000}, {long(3999), vInt(7), 4000}, {long(3999), vInt(-7), 4001},
		{vFlt(1.5), long(3996), 4000}, {vFlt(-1.5), long(3996), 4001}, {long(3980), vInt(leastInt), 4000}, {long(3981), vInt(leastInt), 4001},
	} {
		got := join(c.a, c.b)
		if len(got) != 2 {
			t.Fatal(len(got))
		}
		for _, one := range got {
			worked := c.size <= 4000
			if worked != (one.Code == 0) || one.Code > 1 || worked && (one.Value.Kind != impl.KStr || len(one.Value.Str) != c.size) || !worked && one.Value != (impl.Value{}) {
				t.Errorf("%d bytes: code %d, %d bytes", c.size, one.Code, len(one.Value.Str))
			}
		}
	}
}

// constText: a text by chance, of consts and of what stands around them.
type constText struct {
	r    *rand.Rand
	out  strings.Builder
	left int
}

func (c *constText) any(texts ...string) string { return texts[c.r.Intn(len(texts))] }

func (c *constText) name() string { return c.any("a", "b", "c", "d", "print", "cells") }

func (c *constText) expr(depth int) string {
	if depth == 0 || c.r.Intn(4) == 0 {
		if c.r.Intn(3) > 0 {
			return c.name()
		}
		return c.any("nil", "true", "false", "0", "1", "2", "63", "64", "9223372036854775807", "0.5", "2.0", "1e308", "1e999", `""`, `"s"`, `"\xff"`, "f()", "...")
	}
	if c.r.Intn(4) == 0 {
		return c.any("not ", "-", "~", "#") + "(" + c.expr(depth-1) + ")"
	}
	op := c.any("and", "or", "and", "or", "+", "-", "*", "/", "//", "%", "&", "|", "~", "<<", ">>", "..", "..", "==", "~=", "<", "<=", ">", ">=")
	return "(" + c.expr(depth-1) + " " + op + " " + c.expr(depth-1) + ")"
}

func (c *constText) stats() {
	for range 1 + c.r.Intn(6) {
		c.left--
		switch c.r.Intn(12) {
		case 0:
			fmt.Fprintf(&c.out, "let %s = %s\n", c.name(), c.expr(1))
		case 1:
			c.block("fn " + c.name() + "(" + c.name() + ") ")
		case 2:
			c.block("")
		case 3:
			c.block("for " + c.name() + " = 1, 2 ")
		case 4:
			c.block("const " + c.name() + " = fn() ")
		default:
			fmt.Fprintf(&c.out, "const %s = %s\n", c.name(), c.expr(c.r.Intn(4)))
		}
	}
}

func (c *constText) block(head string) {
	c.out.WriteString(head + "{\n")
	if c.left > 0 {
		c.stats()
	}
	c.out.WriteString("}\n")
}

// P3: the consts of texts by chance are those that the words give, read from the whole to its parts.
func TestConstsByChance(t *testing.T) {
	t.Parallel()
	codes, kinds := map[int]int{}, map[int]int{}
	for seed := range int64(4000) {
		c := constText{r: rand.New(rand.NewSource(seed)), left: 25}
		c.stats()
		x := textTree(t, c.out.String())
		kept := copiedTree(x)
		got, want := impl.Consts(x), plainConsts(x)
		if !slices.EqualFunc(got, want, sameConst) {
			t.Fatalf("%s: %s, want %s", c.out.String(), shortly(got), shortly(want))
		}
		for _, one := range got {
			codes[one.Code]++
			kinds[one.Value.Kind]++
		}
		if !slices.Equal(impl.Uses(x), plainUses(x)) || !sameTree(x, kept) {
			t.Fatalf("%s: %s", c.out.String(), shortly(impl.Uses(x)))
		}
	}
	for seed := range int64(500) {
		checkConstsPlain(t, namesTree(seed))
	}
	for _, count := range []int{codes[0], codes[1], kinds[impl.KBool], kinds[impl.KInt], kinds[impl.KFlt], kinds[impl.KStr], kinds[impl.KBuiltin]} {
		if count < 300 {
			t.Error("too few of some:", codes, kinds)
		}
	}
}

// P3: a chain of consts, each made of the one ahead, is worked out in one go.
func TestConstsInChain(t *testing.T) {
	text := "const A = 1\n" + strings.Repeat("const A = A + A\n", 199)
	consts := impl.Consts(textTree(t, text))
	if len(consts) != 200 {
		t.Fatal(len(consts))
	}
	for i, c := range consts {
		if c.Code != 0 || c.Value != vInt(1<<i) {
			t.Errorf("%d: %v", i, c)
		}
	}
}
