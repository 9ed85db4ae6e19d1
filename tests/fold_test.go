package tests

import (
	"math"
	"math/rand"
	"slices"
	"strings"
	"testing"

	"loop.example/heddle/impl"
)

// P3: operations on literals that give a literal; not those with an error, a NaN, OpJoin, or something that is no literal.
func TestFoldOperations(t *testing.T) {
	for expr, want := range map[string]string{
		"1 + 2": "3", "-1": "-1", "~0": "-1", "not nil": "true", "not 0": "false", `#"abc"`: "3", "7 / 2": "3.5f", "7 // 2": "3", "1 / 0": "+Inff", "-0.0": "-0f",
		"1 < 2": "true", `"a" == "a"`: "true", "print == print": "true", "print == read": "false", "nil ~= false": "true", "1 == 1.0": "true", "not print": "false",
		"9223372036854775807 + 1": "-9223372036854775808", "1 << 63": "-9223372036854775808", "1 << 64": "0",
		"(1 + 2) * 3 - -4": "13", "not not not nil": "true", `#"ab" + #"c"`: "3", "1 + 2 == 3": "true",
		"1 // 0": "op5(1 0)", "1 % 0": "op6(1 0)", "1 << -1": "op10(1 -1)", `1 + "a"`: `op1(1 "a")`, "nil + 1": "op1(nil 1)", "nil < nil": "op15(nil nil)", "-nil": "op19(nil)",
		"~1.5": "op20(1.5f)", "#7": "op22(7)", "#print": "op22(print)", `-"7"`: `op19("7")`,
		"0 / 0": "op4(0 0)", "0 / 0 == 0 / 0": "op13(op4(0 0) op4(0 0))", "-(0 / 0)": "op19(op4(0 0))", "not (0 / 0)": "op21(op4(0 0))", "1e999 - 1e999": "op2(+Inff +Inff)",
		`"a" .. "b"`: `op12("a" "b")`, "1 .. 2": "op12(1 2)", `#("a" .. "b")`: `op22(op12("a" "b"))`, `1 + 2 .. 3 + 4`: "op12(3 7)", `("a" .. "b") == 1`: `op13(op12("a" "b") 1)`,
		"a + 1": "op1(v0 1)", "1 + a": "op1(1 v0)", "-a": "op19(v0)", "1 + 2 + a": "op1(3 v0)", "a + 1 + 2": "op1(op1(v0 1) 2)", "a + (1 + 2)": "op1(v0 3)",
		"{} == {}": "op13(table table)", "not {}": "op21(table)", "not fn() {}": "op21(fn1)", "not print()": "op21(call(print))", "not ...": "op21(...)", "not (...)": "op21(one(...))",
		"1 + 1 // 0": "op1(1 op5(1 0))", "1 // (1 - 1)": "op5(1 0)", "-(1 // 0) + (2 + 3)": "op1(op19(op5(1 0)) 5)",
		"{1 + 2, [3 + 4] = 5 + 6, .x = 7 + 8}": `table(1 3 7 11 "x" 15)`, "a[1 + 2](3 + 4)": "call(at(v0 3) 7)", "a.b": `at(v0 "b")`,
	} {
		checkFoldExpr(t, expr, want)
	}
}

// P3: NAnd and NOr whose first is a literal, with and without a fn in the second; one value is left of a call or `...`.
func TestFoldAndOr(t *testing.T) {
	falses := map[string]string{"nil": "nil", "false": "false", "not 1": "false", "1 > 2": "false"}
	trues := map[string]string{"true": "true", "0": "0", "0.0": "0f", `""`: `""`, "print": "print", "1 + 1": "2"}
	seconds := map[string]string{
		"a": "v0", "nil": "nil", "7": "7", "1 + 2": "3", "{}": "table", "a.b": `at(v0 "b")`, "print()": "one(call(print))", "...": "one(...)", "(print())": "one(call(print))",
		"(...)": "one(...)", "-a": "op19(v0)", "(a and 1)": "and(v0 1)", "(1 // 0)": "op5(1 0)", "print(1 + 2)": "one(call(print 3))", "(nil or ...)": "one(...)",
	}
	for first, told := range falses {
		for second, folded := range seconds {
			checkFoldExpr(t, first+" and "+second, told)
			checkFoldExpr(t, first+" or "+second, folded)
		}
		checkFoldExpr(t, first+" and fn() {}", "and("+told+" fn1)")
		checkFoldExpr(t, first+" and print(fn() {})", "and("+told+" call(print fn1))")
		checkFoldExpr(t, first+" or fn() {}", "fn1")
		checkFoldExpr(t, first+" or print(fn() {})", "one(call(print fn1))")
	}
	for first, told := range trues {
		for second, folded := range seconds {
			checkFoldExpr(t, first+" and "+second, folded)
			checkFoldExpr(t, first+" or "+second, told)
		}
		checkFoldExpr(t, first+" or fn() {}", "or("+told+" fn1)")
		checkFoldExpr(t, first+" or {1, {fn() {}}}", "or("+told+" table(1 1 2 table(1 fn1)))")
		checkFoldExpr(t, first+" and fn() {}", "fn1")
		checkFoldExpr(t, first+" and print(fn() {})", "one(call(print fn1))")
	}
	for expr, want := range map[string]string{
		"a and 1": "and(v0 1)", "a or 1": "or(v0 1)", "a and 1 + 2": "and(v0 3)", "print() and 1": "and(call(print) 1)", "0 / 0 and 1": "and(op4(0 0) 1)",
		"fn() {} and 1": "and(fn1 1)", "1 and 2 and 3": "3", "1 and nil and a": "nil", "nil or false or a": "v0", "(1 and a) or 2": "or(v0 2)",
		"(1 and nil) == nil": "true", "1 + (true and 2)": "3", "(nil and fn() {}) and 1": "and(and(nil fn1) 1)", "{1 and ...}": "table(1 one(...))", "{1 and print()}": "table(1 one(call(print)))",
		"print(1 and ...)": "call(print one(...))", "1 and (1 and ...)": "one(...)", "(1 and fn() {}) and 2": "and(fn1 2)",
	} {
		checkFoldExpr(t, expr, want)
	}
}

// P3: NIf: of a true literal the third is left out, of a false one the second is emptied, unless a fn goes with it.
func TestFoldIf(t *testing.T) {
	for text, want := range map[string]string{
		"if true { print() }":                                        "block:1(if:1(true block:1(do:1(call(print)))))",
		"if 1 { print() } else { read() }":                           "block:1(if:1(1 block:1(do:1(call(print)))))",
		"if 1 { print() } elif 2 { read() }":                         "block:1(if:1(1 block:1(do:1(call(print)))))",
		"if 1 { print() } else { let x = fn() {} }":                  "block:1(if:1(1 block:1(do:1(call(print))) block:1(let:1[0](fn1))))",
		"if 1 { print() } elif fn() {} { read() }":                   "block:1(if:1(1 block:1(do:1(call(print))) if:1(fn1 block:1(do:1(call(read))))))",
		"if 1 { let x = fn() {} } else { read() }":                   "block:1(if:1(1 block:1(let:1[0](fn1))))",
		"if nil {\nprint() } else { read() }":                        "block:1(if:1(nil block:1 block:2(do:2(call(read)))))",
		"if false {\nprint()\n}":                                     "block:1(if:1(false block:1))",
		"if false { let x = fn() {} } else { read() }":               "block:1(if:1(false block:1(let:1[0](fn1)) block:1(do:1(call(read)))))",
		"if false { } else { let x = fn() {} }":                      "block:1(if:1(false block:1 block:1(let:1[0](fn1))))",
		"if nil { print() } else { let x = fn() {} }":                "block:1(if:1(nil block:1 block:1(let:1[0](fn1))))",
		"if 1 > 2 { print() } elif 1 < 2 { read() } else { read() }": "block:1(if:1(false block:1 if:1(true block:1(do:1(call(read))))))",
		"if nil or 0 { } else { }":                                   "block:1(if:1(0 block:1))",
		"if print { } else { }":                                      "block:1(if:1(print block:1))",
		"if print() { print() } else { read() }":                     "block:1(if:1(call(print) block:1(do:1(call(print))) block:1(do:1(call(read)))))",
		"if 0 / 0 { } else { }":                                      "block:1(if:1(op4(0 0) block:1 block:1))",
		"if true { if nil { print() } else { read() } }":             "block:1(if:1(true block:1(if:1(nil block:1 block:1(do:1(call(read)))))))",
		"if nil { if fn() {} { } }":                                  "block:1(if:1(nil block:1(if:1(fn1 block:1))))",
		"let a\nif a { } else { if 1 { } else { } }":                 "block:1(let:1[0] if:2(v0 block:2 block:2(if:2(1 block:2))))",
	} {
		checkFold(t, text, want)
	}
}

// P3: the block of a NWhile of a false literal is emptied; a true one leaves it.
func TestFoldWhile(t *testing.T) {
	for text, want := range map[string]string{
		"while nil {\nprint()\nbreak }":         "block:1(while:1(nil block:1))",
		"while 1 == 2 { print() }":              "block:1(while:1(false block:1))",
		"while false { let x = fn() {} }":       "block:1(while:1(false block:1(let:1[0](fn1))))",
		"while true { print() }":                "block:1(while:1(true block:1(do:1(call(print)))))",
		"while 0 { break\nprint() }":            "block:1(while:1(0 block:1(break:1)))",
		"while print() { }":                     "block:1(while:1(call(print) block:1))",
		"while print() { next }":                "block:1(while:1(call(print) block:1(next:1)))",
		"while nil and print() { print() }":     "block:1(while:1(nil block:1))",
		"for i = 1 + 1, 2 + 2 { i = 3 + 3 }":    "block:1(for:1[0](2 4 1 block:1(set:1/1(v0 6))))",
		"for i in nil { print(1 - 1) }":         "block:1(each:1[0](nil block:1(do:1(call(print 0)))))",
		"try { throw 1 + 1 } catch e { e(-1) }": "block:1(try:1[0 1](block:1(throw:1(2)) block:1(do:1(call(v0 -1)))))",
	} {
		checkFold(t, text, want)
	}
}

// P3: what stands behind each of the four that end a block is left out, all of it or, with a fn in it, nothing.
func TestFoldBlocks(t *testing.T) {
	for text, want := range map[string]string{
		"return\nprint()":                                      "block:1(return:1)",
		"print()\nreturn 1\nlet x\nx()":                        "block:1(do:1(call(print)) return:2(1))",
		"throw 1\nprint()\nprint()":                            "block:1(throw:1(1))",
		"while ... { break\nprint() }":                         "block:1(while:1(... block:1(break:1)))",
		"while ... { next\nprint() }":                          "block:1(while:1(... block:1(next:1)))",
		"while ... { next\nbreak\nreturn\nthrow 1 }":           "block:1(while:1(... block:1(next:1)))",
		"return\nreturn":                                       "block:1(return:1)",
		"return\nlet x = fn() {}":                              "block:1(return:1 let:2[0](fn1))",
		"return\nprint()\nfn f() {}\nprint()":                  "block:1(return:1 do:2(call(print)) let:3[0] set:3/1(v0 fn1) do:4(call(print)))",
		"return fn() {}\nprint()":                              "block:1(return:1(fn1))",
		"let x = fn() {}\nreturn\nprint()":                     "block:1(let:1[0](fn1) return:2)",
		"return\nif 1 { print(fn() {}) }\nprint()":             "block:1(return:1 if:2(1 block:2(do:2(call(print fn1)))) do:3(call(print)))",
		"return\nreturn fn() {}\nprint()":                      "block:1(return:1 return:2(fn1) do:3(call(print)))",
		"{ return\nprint() }\nprint()":                         "block:1(block:1(return:1) do:3(call(print)))",
		"if ... { return } else { throw 1 }\nprint()":          "block:1(if:1(... block:1(return:1) block:1(throw:1(1))) do:2(call(print)))",
		"try { return\nprint() } catch e { throw e\nprint() }": "block:1(try:1[0 1](block:1(return:1) block:2(throw:2(v0))))",
		"defer print()\nprint()":                               "block:1(defer:1(call(print)) do:2(call(print)))",
		"return 1 + 2\nprint(1 + 2)":                           "block:1(return:1(3))",
		"return\nif nil { print() }\nlet x = fn() {}":          "block:1(return:1 if:2(nil block:2) let:3[0](fn1))",
	} {
		checkFold(t, text, want)
	}
}

// P3: every fn of a unit is folded, and nothing but its nodes changes.
func TestFoldFns(t *testing.T) {
	u := boundText(t, "let a, b\nfn f(x, ...) { let y\nreturn fn() { return b, x, y, 1 + 2 }, nil and y\n}\nreturn 1 + 2, fn(...) { return ...\nprint() }")
	want := "main:0 0+ [a b f] [] block:1(let:1[0 1] let:2[2] set:2/1(v2 fn1) return:5(3 fn3)); f:2 1+ [x y] [.1] block:2(let:2[1] return:3(fn2 nil)); " +
		":3 0 [] [0 .0 .1] block:3(return:3(u0 u1 u2 3)); :5 0+ [] [] block:5(return:5(...))"
	if got := unitTold(checkFoldPlain(t, u)); got != want {
		t.Errorf("%s, want %s", got, want)
	}
	// A variable that is declared no more is still there.
	got := checkFoldPlain(t, boundText(t, "return\nlet a, b\na(b)"))
	if !slices.Equal(got.Fns[0].Vars, []string{"a", "b"}) || len(got.Fns[0].Nodes) != 2 {
		t.Error(unitTold(got))
	}
}

// P3: every operation with every pair of values of every Kind that a literal has.
func TestFoldEveryOperation(t *testing.T) {
	values := literalValues()
	for _, a := range values {
		var kids []*plainTwig
		for op := impl.OpNeg; op <= impl.OpLen; op++ {
			kids = append(kids, twigOf(impl.Node{Kind: impl.NUnary, Op: op}, twigOf(plainLiteral(a))))
		}
		for _, b := range values {
			for op := impl.OpAdd; op <= impl.OpGe; op++ {
				kids = append(kids, twigOf(impl.Node{Kind: impl.NBinary, Op: op}, twigOf(plainLiteral(a)), twigOf(plainLiteral(b))))
			}
			for _, kind := range []int{impl.NAnd, impl.NOr} {
				kids = append(kids, twigOf(plainNode(kind), twigOf(plainLiteral(a)), twigOf(plainLiteral(b))))
			}
		}
		for some := range slices.Chunk(kids, 190) {
			body := twigOf(impl.Node{Kind: impl.NBlock, Line: 1}, twigOf(impl.Node{Kind: impl.NReturn, Line: 1}, some...))
			checkFoldPlain(t, impl.Unit{Fns: []impl.Fn{{Nodes: body.laid()}}})
		}
	}
}

// P3: nodes that stand in another order stand in that of the walk then; zeros of the other sign stay, and are no value.
func TestFoldOrder(t *testing.T) {
	u := impl.Unit{Fns: []impl.Fn{{Vars: []string{"x"}, Nodes: []impl.Node{
		{Kind: impl.NInt, Num: 2},
		{Kind: impl.NReturn, Line: 5, Kids: []int{0}},
		{Kind: impl.NVar, Refs: []int{0}, Flt: minusZero},
		{Kind: impl.NInt, Num: 1, Flt: minusZero},
		{Kind: impl.NInt, Num: 1},
		{Kind: impl.NBinary, Op: impl.OpAdd, Kids: []int{4, 3}},
		{Kind: impl.NIndex, Kids: []int{2, 5}},
		{Kind: impl.NStr, Str: "v"},
		{Kind: impl.NSet, Line: 4, Num: 1, Kids: []int{6, 7}},
		{Kind: impl.NLet, Line: 3, Refs: []int{0}},
		{Kind: impl.NBlock, Line: 2, Kids: []int{9, 8, 1}},
	}}}}
	got := checkFoldPlain(t, u)
	want := []impl.Node{
		{Kind: impl.NLet, Line: 3, Refs: []int{0}},
		{Kind: impl.NVar, Refs: []int{0}, Flt: minusZero},
		{Kind: impl.NInt, Num: 2},
		{Kind: impl.NIndex, Kids: []int{1, 2}},
		{Kind: impl.NStr, Str: "v"},
		{Kind: impl.NSet, Line: 4, Num: 1, Kids: []int{3, 4}},
		{Kind: impl.NInt, Num: 2},
		{Kind: impl.NReturn, Line: 5, Kids: []int{6}},
		{Kind: impl.NBlock, Line: 2, Kids: []int{0, 5, 7}},
	}
	if len(got.Fns) != 1 || !slices.EqualFunc(got.Fns[0].Nodes, want, sameNode) {
		t.Error(got)
	}
}

// P3: the units of trees by chance, their nodes also in other orders, are folded as the rules say.
func TestFoldByChance(t *testing.T) {
	t.Parallel()
	lost, seen := 0, map[int]int{}
	for seed := range int64(1500) {
		b := impl.Bind(literalRich(seed))
		if b.Code != 0 {
			continue
		}
		u := b.Unit
		folded := checkFoldPlain(t, u)
		for f := range u.Fns {
			lost += len(u.Fns[f].Nodes) - len(folded.Fns[f].Nodes)
			for _, node := range folded.Fns[f].Nodes {
				seen[node.Kind]++
			}
		}
		r := rand.New(rand.NewSource(seed))
		if other := shuffled(r, u); plainUnitFault(other) == (impl.Fault{}) && !sameUnit(checkFoldPlain(t, other), folded) {
			t.Fatalf("%s is folded otherwise in another order", unitTold(u))
		}
	}
	if lost < 5000 || seen[impl.NOne] < 50 {
		t.Error("too few:", lost, seen)
	}
}

// P3: a unit that is not valid has the zero value, by whichever code; one that is spoilt and still valid is folded.
func TestFoldUnitsByChance(t *testing.T) {
	t.Parallel()
	codes := map[int]int{}
	r := rand.New(rand.NewSource(61))
	for seed := range int64(6000) {
		b := impl.Bind(boundTree(seed%600, 0))
		if b.Code != 0 {
			continue
		}
		u := b.Unit
		for range 1 + r.Intn(2) {
			spoilUnit(r, &u)
		}
		fault := plainUnitFault(u)
		codes[fault.Code]++
		if got := impl.CheckUnit(u); got != fault {
			t.Fatalf("%s: fault %v, want %v", shortly(u), got, fault)
		}
		if folded := impl.Fold(u); (fault.Code == 0) != (len(folded.Fns) > 0) {
			t.Fatalf("%s: fault %v, but folded to %s", shortly(u), fault, shortly(folded))
		}
	}
	for _, code := range []int{0, 2, 3, 4, 6, 7, 8, 9} {
		if codes[code] < 20 {
			t.Error("too few of some:", codes)
		}
	}
}

// P3: units that are not valid, one for each code, have the zero value.
func TestFoldWrongUnits(t *testing.T) {
	good := boundText(t, "let a = 1 + 2\nfn f(x) { while x { break }\nreturn a, x }\nreturn f")
	if len(impl.Fold(good).Fns) != 2 {
		t.Fatal(unitTold(good))
	}
	nodeOf := func(u *impl.Unit, kind int) *impl.Node {
		for f := range u.Fns {
			for n := range u.Fns[f].Nodes {
				if u.Fns[f].Nodes[n].Kind == kind {
					return &u.Fns[f].Nodes[n]
				}
			}
		}
		return nil
	}
	for what, spoil := range map[string]func(u *impl.Unit){
		"no fns":             func(u *impl.Unit) { u.Fns = nil },
		"301 fns":            func(u *impl.Unit) { u.Fns = append(u.Fns, slices.Repeat(u.Fns[1:], 299)...) },
		"a text with Params": func(u *impl.Unit) { u.Fns[0].Params = 1 },
		"a text with Ups":    func(u *impl.Unit) { u.Fns[0].Ups = []impl.Up{{}} },
		"no nodes":           func(u *impl.Unit) { u.Fns[1].Nodes = nil },
		"201 variables":      func(u *impl.Unit) { u.Fns[0].Vars = append(u.Fns[0].Vars, someNames(199)...) },
		"a long name":        func(u *impl.Unit) { u.Fns[1].Name = strings.Repeat("n", 41) },
		"a Kind":             func(u *impl.Unit) { nodeOf(u, impl.NInt).Kind = 19 },
		"a NaN":              func(u *impl.Unit) { *nodeOf(u, impl.NInt) = impl.Node{Kind: impl.NFlt, Flt: math.NaN()} },
		"a Line":             func(u *impl.Unit) { nodeOf(u, impl.NInt).Line = 1 },
		"no Line":            func(u *impl.Unit) { nodeOf(u, impl.NLet).Line = 0 },
		"a kid beyond":       func(u *impl.Unit) { nodeOf(u, impl.NReturn).Kids[0] = 99 },
		"a kid twice":        func(u *impl.Unit) { nodeOf(u, impl.NBinary).Kids[1] = 0 },
		"a kid of none":      func(u *impl.Unit) { nodeOf(u, impl.NReturn).Kids = nil },
		"no variable":        func(u *impl.Unit) { nodeOf(u, impl.NVar).Refs[0] = 7 },
		"declared again":     func(u *impl.Unit) { nodeOf(u, impl.NLet).Refs = []int{0, 0} },
		"no loop":            func(u *impl.Unit) { nodeOf(u, impl.NWhile).Kind = impl.NIf },
		"no Rest":            func(u *impl.Unit) { u.Fns[0].Rest = false; *nodeOf(u, impl.NInt) = impl.Node{Kind: impl.NRest} },
		"a fn that is text":  func(u *impl.Unit) { nodeOf(u, impl.NFn).Refs[0] = 0 },
		"an Up beyond":       func(u *impl.Unit) { u.Fns[1].Ups[0] = impl.Up{Index: 0} },
		"a fn of none":       func(u *impl.Unit) { *nodeOf(u, impl.NFn) = impl.Node{Kind: impl.NNil} },
	} {
		u := copiedUnit(good)
		spoil(&u)
		if fault := plainUnitFault(u); fault == (impl.Fault{}) {
			t.Errorf("%s: it is valid", what)
		}
		if got := impl.Fold(u); len(got.Fns) != 0 {
			t.Errorf("%s: %s", what, unitTold(got))
		}
	}
}

// P3: what is folded shares no memory with the unit, nor do two of its lists.
func TestFoldSharesNothing(t *testing.T) {
	for seed := range int64(200) {
		b := impl.Bind(literalRich(seed))
		if b.Code != 0 {
			continue
		}
		u := b.Unit
		kept, want := copiedUnit(u), plainFold(u)
		got := impl.Fold(u)
		overwriteUnit(u)
		if !sameUnit(got, want) {
			t.Fatalf("what is folded of %s shares memory with it", unitTold(kept))
		}
		u = copiedUnit(kept)
		got = impl.Fold(u)
		if sharedInts(got) {
			t.Fatalf("two lists of %s share memory", unitTold(want))
		}
		overwriteUnit(got)
		if !sameUnit(u, kept) {
			t.Fatalf("%s is changed", unitTold(kept))
		}
	}
	// Lists of the unit may share memory among them; those of the answer do not.
	refs := []int{0}
	u := impl.Unit{Fns: []impl.Fn{{Vars: []string{"x"}, Nodes: []impl.Node{
		{Kind: impl.NLet, Line: 1, Refs: refs}, {Kind: impl.NVar, Refs: refs}, {Kind: impl.NReturn, Line: 1, Kids: []int{1}}, {Kind: impl.NBlock, Line: 1, Kids: []int{0, 2}},
	}}}}
	if sharedInts(impl.Fold(u)) || refs[0] != 0 {
		t.Error("shared")
	}
}
