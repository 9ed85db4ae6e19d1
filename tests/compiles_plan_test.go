package tests

import (
	"fmt"
	"math"
	"slices"
	"strings"
	"testing"

	"loop.example/heddle/impl"
)

// checkCaptured: for each fn of a text the names of its variables, each that is closed over with a star.
func checkCaptured(t *testing.T, text string, want ...string) {
	t.Helper()
	u := boundText(t, text)
	checkPlans(t, text, u)
	var got []string
	for f, fn := range u.Fns {
		captured := impl.Captured(u, f)
		if len(captured) != len(fn.Vars) {
			t.Fatalf("%s: fn %d: %v of %v", text, f, captured, fn.Vars)
		}
		var words []string
		for v, name := range fn.Vars {
			words = append(words, name+map[bool]string{true: "*"}[captured[v]])
		}
		got = append(got, strings.Join(words, " "))
	}
	if !slices.Equal(got, want) {
		t.Errorf("%s: %q, want %q", text, got, want)
	}
}

// P6: variables that no fn, one fn and several fns close over, over several levels of fns.
func TestCaptured(t *testing.T) {
	checkCaptured(t, "", "")
	checkCaptured(t, "let a, b\nreturn a, b", "a b")
	checkCaptured(t, "let a, b\nreturn fn(p, ...) {return b}", "a b*", "p")
	checkCaptured(t, "let a, b, c\nlet f = fn() {return a, c}, fn() {c = 1}", "a* b c* f", "", "")
	checkCaptured(t, lined("let a, b, c, d", "fn f(p, q) {", "let r = a", "return fn(s) {", "return fn() {return b, p, s}", "}", "}", "fn g() {return a, c}"),
		"a* b* c* d f g", "p* q r", "s*", "", "")
	checkCaptured(t, "for i = 1, 2 {let f = fn() {return i}}\nfor i = 1, 2 {}\nfor k, v in {} {let f = fn() {return v}}", "i* f i k v* f", "", "")
	checkCaptured(t, "try {} catch e, x {return fn() {x = 1}}\nreturn fn() {return fn() {}}", "e x*", "", "", "")
	checkCaptured(t, "fn f() {return f}", "f*", "")
	checkCaptured(t, "fn f(a, b) {return fn() {return fn() {return fn() {return b}}}}", "f", "a b*", "", "", "")
}

// P6: an Up that is not Local is one of the fn around, whatever variable has its number there.
func TestCapturedNotLocal(t *testing.T) {
	making := func(refs []int, g int) []impl.Node {
		return blockTwig(statTwig(impl.NLet, refs), statTwig(impl.NThrow, nil, refTwig(impl.NFn, g))).laid()
	}
	u := impl.Unit{Fns: []impl.Fn{
		{Vars: []string{"a", "b", "c"}, Nodes: making([]int{0, 1, 2}, 1)},
		{Vars: []string{"d", "e", "f"}, Ups: []impl.Up{{Local: true, Index: 2}, {Local: true, Index: 1}}, Nodes: making([]int{2, 0, 1}, 2)},
		{Ups: []impl.Up{{Index: 1}, {Index: 0}, {Local: true, Index: 2}, {Index: 1}, {Local: true, Index: 2}}, Nodes: blockTwig().laid()},
	}}
	for f, want := range [][]bool{{false, true, true}, {false, false, true}, nil} {
		if got := impl.Captured(u, f); !slices.Equal(got, want) {
			t.Errorf("fn %d: %v, want %v", f, got, want)
		}
	}
	checkCompiledUnit(t, "ups", u, `proto _ regs=4
		line 1; const 0 nil; const 1 nil; const 2 nil; box 1 ~1; box 2 ~2; line 1; fn 3 1; throw ~3; drop 0; drop 1; drop 2; list 0; return ~0
		var a 0 6 9
		var b 1 6 9
		var c 2 6 9
		proto _ ups=r2,r1 regs=4
		line 1; const 0 nil; const 1 nil; const 2 nil; box 0 ~0; line 1; fn 3 2; throw ~3; drop 0; drop 1; drop 2; list 0; return ~0
		var d 1 5 8
		var e 2 5 8
		var f 0 5 8
		proto _ ups=u1,u0,r0,u1,r0 regs=1
		list 0; return ~0`)
}

// checkHomes: the homes of the variables of the text, or with a fn in it of its last fn.
func checkHomes(t *testing.T, text string, want ...int) {
	t.Helper()
	u := boundText(t, text)
	checkPlans(t, text, u)
	last := len(u.Fns) - 1
	if got := impl.Homes(u, last); !slices.Equal(got, want) {
		t.Errorf("%s: %v: %v, want %v", text, u.Fns[last].Vars, got, want)
	}
}

// P6: homes of parameters, and of what NLet, NFor, NEach and NTry declare, in blocks behind and within one another.
func TestHomes(t *testing.T) {
	checkHomes(t, "")
	checkHomes(t, "return fn(a, b) {}", 0, 1)
	checkHomes(t, "return fn(a, b) {let c}", 0, 1, 2)
	checkHomes(t, "return fn(a, b, ...) {let c}", 0, 1, 3)
	checkHomes(t, "return fn(...) {let c}", 1)
	checkHomes(t, "return fn() {let c, d}", 0, 1)
	checkHomes(t, "let a\nlet b, c = 1, 2, 3\nlet d, e, f = ...\nlet g = {1, {2}}", 1, 2, 3, 4, 5, 6, 7)
	checkHomes(t, "let a\n{let b, c}\n{let d; {let e; {let f}}; let g}\nlet h", 1, 2, 3, 2, 3, 4, 3, 2)
	checkHomes(t, "if 1 {let a} elif 2 {let b} else {let c}\nwhile 1 {let d}", 1, 1, 1, 1)
	checkHomes(t, "for i = 1, 2 {let a}\nlet b", 4, 5, 1)
	checkHomes(t, "let a\nfor i = 1, 2 {for j = 1, 2 {let b}; let c}", 1, 5, 9, 10, 6)
	checkHomes(t, "for k in {} {let a}", 4, 5)
	checkHomes(t, "for k, l, m, n in {} {let a\nfor p, q in {} {let b}}", 4, 5, 6, 7, 8, 12, 13, 14)
	checkHomes(t, "let x\ntry {let a} catch e, f {let b}\nlet y", 1, 2, 2, 3, 4, 2)
	checkHomes(t, "try {try {let a} catch e, f {let b}} catch g, h {try {let c} catch i, j {let d}}", 1, 1, 2, 3, 1, 2, 3, 3, 4, 5)
	checkHomes(t, "return fn(p) {defer p()\nlet a\nfor i = a, p {try {defer p(); let b} catch e, f {}}}", 0, 1, 5, 6, 6, 7)
	// What closes over a variable says nothing of its home.
	checkHomes(t, "let a, b\nfor k, v in {} {let f = a}\nlet c = b", 1, 2, 6, 7, 8, 3)
	checkPlans(t, "captured", boundText(t, "let a, b\nfor k, v in {} {let f = fn() {return a, k, v}}\nlet c = b"))
	if got := impl.Homes(boundText(t, "let a, b\nfor k, v in {} {let f = fn() {return a, k, v}}\nlet c = b"), 0); !slices.Equal(got, []int{1, 2, 6, 7, 8, 3}) {
		t.Error(got)
	}
}

// P6: a variable that is never declared has no home; the order of the Vars is not that of declaring.
func TestHomesByNumber(t *testing.T) {
	u := impl.Unit{Fns: []impl.Fn{{Vars: []string{"a", "b", "c", "d", "e", "f"}, Nodes: blockTwig(
		statTwig(impl.NLet, []int{4, 1}),
		statTwig(impl.NTry, []int{5, 2}, blockTwig(), blockTwig()),
	).laid()}}}
	if got := impl.Homes(u, 0); !slices.Equal(got, []int{-1, 1, 3, -1, 0, 2}) {
		t.Error(got)
	}
	checkCompiledUnit(t, "some of the variables", u, `proto _ regs=4
		line 1; const 0 nil; const 1 nil; line 1; try @h 2; endtry; jump @end; h: drop 2; drop 3; end: drop 0; drop 1; list 0; return ~0
		var b 1 3 9
		var c 3 7 7
		var e 0 3 9
		var f 2 7 7`)
	none := impl.Unit{Fns: []impl.Fn{{Vars: []string{"a", "b"}, Nodes: blockTwig().laid()}}}
	if got := impl.Homes(none, 0); !slices.Equal(got, []int{-1, -1}) {
		t.Error(got)
	}
	if got := impl.Captured(none, 0); !slices.Equal(got, []bool{false, false}) {
		t.Error(got)
	}
	// NLet of all 200 variables, in an order of its own.
	refs := countTo(200)
	slices.Reverse(refs)
	all := impl.Unit{Fns: []impl.Fn{{Vars: slices.Repeat([]string{"v"}, 200), Rest: true, Nodes: blockTwig(statTwig(impl.NLet, refs)).laid()}}}
	checkPlans(t, "200 variables", all)
	for v, home := range impl.Homes(all, 0) {
		if home != 200-v {
			t.Error(v, home)
		}
	}
}

// P6: a unit whose code would be too large has homes as any other, beyond the last register of codes.
func TestHomesOfTooLarge(t *testing.T) {
	u := deepLoops(180, 20)
	homes := impl.Homes(u, 0)
	if len(homes) != 200 || homes[179] != 180 || homes[180] != 184 || homes[199] != 260 {
		t.Error(homes)
	}
	checkPlans(t, "too large", u)
	if got := impl.Compile(u); got.Code != 2 || len(got.Made.Protos) != 0 {
		t.Error(got.Code)
	}
}

// deepLoops: so many variables, and so many NFors within one another.
func deepLoops(vars, loops int) impl.Unit {
	inner := blockTwig()
	for n := loops - 1; n >= 0; n-- {
		inner = blockTwig(statTwig(impl.NFor, []int{vars + n}, intTwig(1), intTwig(2), intTwig(3), inner))
	}
	body := blockTwig(statTwig(impl.NLet, countTo(vars)), inner)
	return impl.Unit{Fns: []impl.Fn{{Rest: true, Vars: slices.Repeat([]string{"v"}, vars+loops), Nodes: body.laid()}}}
}

// P6: nothing for a fn that there is not, or a unit that is not valid, whatever its fault.
func TestPlansOfNothing(t *testing.T) {
	checkNothing := func(told string, u impl.Unit, fns ...int) {
		t.Helper()
		for _, f := range fns {
			if captured, homes := impl.Captured(u, f), impl.Homes(u, f); len(captured) != 0 || len(homes) != 0 {
				t.Errorf("%s: fn %d: %v %v", told, f, captured, homes)
			}
		}
	}
	u := boundText(t, "let a = fn() {let b}")
	checkNothing("a valid unit", u, -1, 2, 3, math.MinInt, math.MaxInt)
	checkNothing("no fns", impl.Unit{}, -1, 0, 1)
	ground := spoilable()
	for _, s := range someSpoilers(ground) {
		spoiled := copiedUnit(ground)
		s.spoil(spoiled)
		checkNothing(fmt.Sprint(s.want), spoiled, -1, 0, 1, 2, 3, 4)
	}
	tooMany := impl.Unit{Fns: slices.Repeat([]impl.Fn{{Vars: []string{"a"}, Nodes: blockTwig().laid()}}, 301)}
	checkNothing("301 fns", tooMany, -1, 0, 300, 301)
}
