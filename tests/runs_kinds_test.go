package tests

import (
	"fmt"
	"testing"

	"loop.example/heddle/impl"
)

// kinded: a text with h, a table whose kind has the handler; it prints what it is called with and gives 41 and 42. p is a table
// without one, and is(v) tells which of them a value is.
func kinded(name, rest string) string {
	return `let h, p = {}, {}
fn is(v) {if type(v) ~= "table" {return v} elif rawget(v, "h") {return "h"}; return "p"}
rawset(h, "h", true)
setkind(h, {["` + name + `"] = fn(...) {let t = {...}; print(is(t[1]), is(t[2]), is(t[3]), #t); return 41, 42}})
` + rest
}

// P4: the handlers of two operands: of the first, else of the second; called with both.
func TestBinaryHandlers(t *testing.T) {
	for op, name := range map[string]string{"+": "add", "-": "sub", "*": "mul", "/": "div", "//": "idiv", "%": "mod", "&": "and", "|": "or", "~": "xor", "<<": "shl", ">>": "shr", "..": "join"} {
		checkSays(t, kinded(name, fmt.Sprintf("print(h %s 1, 2 %s h, h %s p, p %s h, h %s h, nil %s h)", op, op, op, op, op, op)),
			"h 1 nil 2", "2 h nil 2", "h p nil 2", "p h nil 2", "h h nil 2", "nil h nil 0", "41 41 41 41 41 41")
		checkCode(t, "let a = {} "+op+" {}", impl.ErrType)
		checkCode(t, "let a = setkind({}, {.eq = print}) "+op+" 1", impl.ErrType)
		checkCode(t, "let a = setkind({}, {[\""+name+"\"] = 5}) "+op+" 1", impl.ErrCall)
	}
	// The first one's goes ahead; false is a handler, too.
	checkSays(t, "fn k(x) {return setkind({}, {.add = fn() {return x}})}; print(k(1) + k(2), {} + k(3), k(nil) + 1)", "1 3 nil")
	checkCode(t, "let a = setkind({}, {.add = false}) + setkind({}, {.add = print})", impl.ErrCall)
	// Other codes are thrown, and no handler is asked.
	checkCode(t, "let a = 1 // 0", impl.ErrZero)
	checkCode(t, "let a = 1 << -5", impl.ErrRange)
	// A handler that gives nothing gives nil; a builtin and a table that can be called are handlers as well.
	checkSays(t, "let t = setkind({}, {.add = fn() {}, .sub = print, .mul = setkind({}, {.call = fn(...) {print(...); return 9}}), .div = type}); print(t + 1, t - 1, t * 2, t / 3)",
		"table 1", "table table 2", "nil nil 9 table")
}

// P4: eq is asked for two tables that are not the same, lt and le where there is no order; the Truth of the answer counts.
func TestComparingHandlers(t *testing.T) {
	checkSays(t, kinded("eq", "print(h == p, p == h, h ~= p, p ~= h)"), "h p nil 2", "p h nil 2", "h p nil 2", "p h nil 2", "true true false false")
	checkSays(t, kinded("eq", "print(h == h, h ~= h, h == 1, 1 == h, h == nil, h ~= print)"), "true false false false false true")
	checkSays(t, "fn k(x) {return setkind({}, {.eq = fn() {return x}})}; print(k(nil) == {}, k(0) == {}, k(false) ~= {}, {} == k(1), k(false) == k(true), k() == k())", "false true true true false false")
	checkCode(t, "let a = setkind({}, {.eq = 7}) == {}", impl.ErrCall)
	for op, name := range map[string]string{"<": "lt", "<=": "le"} {
		checkSays(t, kinded(name, fmt.Sprintf("print(h %s 1, 2 %s h, h %s p, p %s h, h %s h, \"s\" %s h)", op, op, op, op, op, op)),
			"h 1 nil 2", "2 h nil 2", "h p nil 2", "p h nil 2", "h h nil 2", "s h nil 2", "true true true true true true")
	}
	for op, name := range map[string]string{">": "lt", ">=": "le"} {
		checkSays(t, kinded(name, fmt.Sprintf("print(h %s 1, 2 %s h, h %s p, p %s h)", op, op, op, op)), "1 h nil 2", "h 2 nil 2", "p h nil 2", "h p nil 2", "true true true true")
		checkCode(t, "let a = {} "+op+" 1", impl.ErrType)
	}
	// Of two that both have one, the first of the turned pair is asked.
	checkSays(t, "fn k(x) {return setkind({}, {.lt = fn() {print(x)}, .le = fn() {print(x, x); return 1}})}; print(k(1) < k(2), k(1) > k(2), k(1) <= k(2), k(1) >= k(2))",
		"1", "2", "1 1", "2 2", "false false true true")
	checkCode(t, "let a = setkind({}, {.lt = print}) <= 1", impl.ErrType)
	checkCode(t, "let a = setkind({}, {.le = print}) < 1", impl.ErrType)
	checkSays(t, "print(1 < 2, 2.5 >= 1, \"a\" < \"b\", 0.0 / 0.0 < 1, 0.0 / 0.0 >= 0.0 / 0.0)", "true true true false false")
	checkCode(t, "let a = 1 < \"2\"", impl.ErrType)
}

// P4: the handlers of one operand.
func TestUnaryHandlers(t *testing.T) {
	for op, name := range map[string]string{"-": "neg", "~": "flip", "#": "len"} {
		checkSays(t, kinded(name, "print("+op+"h)"), "h nil nil 1", "41")
		checkCode(t, "let a = "+op+"nil", impl.ErrType)
		if op != "#" {
			checkCode(t, "let a = "+op+"{}", impl.ErrType)
			checkCode(t, "let a = "+op+"setkind({}, {.len = print})", impl.ErrType)
		}
	}
	checkSays(t, "print(#setkind({1, 2}, {.neg = print}), not setkind({}, {.not1 = print}), #setkind({7}, {.len = type}), #setkind({}, {.len = fn() {}}))", "2 false table nil")
	checkSays(t, "let t = {1, 2, 3, [5] = 5}; print(#t); t[4] = 4; print(#t); t[2] = nil; print(#t, #\"\", #\"\\xff\\n\")", "3", "5", "1 0 2")
}

// P4: reading: what is there, else by index: nothing, another table in the same way, or a call.
func TestIndexHandlers(t *testing.T) {
	checkSays(t, kinded("index", "h.x = 1; print(h.x, h[7], h[nil], p.x, h.x)"), "h 7 nil 2", "h nil nil 1", "1 41 41 nil 1")
	checkSays(t, "let a = {.x = 1}; let b = setkind({.y = 2}, {.index = a}); let c = setkind({}, {.index = b}); print(c.x, c.y, c.z, b.x, a.y)", "1 2 nil 1 nil")
	// The call is for the table that has the handler, and the key as it was.
	checkSays(t, "let a = {}; setkind(a, {.index = fn(v, k) {print(v == a, k); return k, 2}}); let b = setkind({}, {.index = a}); print(b[1.0], b.q)", "true 1p0", "true q", "1p0 q")
	checkSays(t, "print(setkind({}, {.index = fn() {}}).x, setkind({}, {.index = type}).x, setkind({}, {.index = setkind({.x = 3}, {.call = print})}).x)", "nil table 3")
	checkCode(t, "let a = setkind({}, {.index = 5}).x", impl.ErrCall)
	checkCode(t, "let a = setkind({}, {.index = \"s\"}).x", impl.ErrCall)
	checkCode(t, "let a = setkind({}, {.index = false}).x", impl.ErrCall)
	for steps, want := range map[int]string{1: "7", 19: "7", 20: "7", 21: "error 11", 22: "error 11"} {
		text := fmt.Sprintf("let t = {.x = 7}; for i = 1, %d {t = setkind({}, {.index = t})}; try {return t.x} catch e {return \"error \" .. e.code}", steps)
		checkShown(t, text, ranText(t, text, plenty()).Vals, []string{want})
		text = fmt.Sprintf("let t = {}; setkind(t, {.index = fn() {return 7}}); for i = 1, %d {t = setkind({}, {.index = t})}; try {return t.x} catch e {return \"error \" .. e.code}", steps)
		checkShown(t, text, ranText(t, text, plenty()).Vals, []string{want})
	}
	// Twenty steps lead to a table that has nothing and no handler.
	checkSays(t, "let t = {}; for i = 1, 20 {t = setkind({}, {.index = t})}; print(t.x)", "nil")
	checkCode(t, "let t = {}; setkind(t, {.index = t}); let a = t.x", impl.ErrLoop)
	checkSays(t, "let t = {}; setkind(t, {.index = t}); t.x = 1; print(t.x)", "1")
}

// P4: writing: where a pair is, else by setindex: here, into another table in the same way, or by a call.
func TestSetIndexHandlers(t *testing.T) {
	checkSays(t, kinded("setindex", "h.h = 5; h.x = 1; h[2] = nil; p.x = 3; print(rawget(h, \"h\"), rawget(h, \"x\"), p.x)"), "h x 1 3", "h 2 nil 2", "5 nil 3")
	checkSays(t, "let a, b = {}, {}; setkind(b, {.setindex = a}); b.x = 1; print(a.x, rawget(b, \"x\")); rawset(b, \"x\", 2); b.x = 3; print(a.x, b.x); b.x = nil; b.x = 4; print(a.x, rawget(b, \"x\"))", "1 nil", "1 3", "4 nil")
	checkSays(t, "let a = {}; setkind(a, {.setindex = fn(v, k, x, ...) {print(v == a, k, x, ...); return 9}}); let b = setkind({}, {.setindex = a}); b[1.0] = 5; b[2] = nil", "true 1p0 5", "true 2 nil")
	checkSays(t, "let t = setkind({}, {.setindex = rawset}); t.x = 1; print(t.x); let u = setkind({}, {.setindex = setkind({}, {.call = print})}); u.x = 1; print(u.x)", "1", "nil")
	checkCode(t, "let t = setkind({}, {.setindex = 5}); t.x = 1", impl.ErrCall)
	// The key is looked at first, wherever the value would go.
	for _, target := range []string{"{}", "setkind({}, {.setindex = print})", "setkind({}, {.setindex = {}})"} {
		checkCode(t, "let t = "+target+"; t[nil] = 1", impl.ErrKey)
		checkCode(t, "let t = "+target+"; t[0.0 / 0.0] = nil", impl.ErrKey)
	}
	for _, v := range []string{"nil", "1", "\"s\"", "print", "task(none)"} {
		checkCode(t, "let t = "+v+"; t[nil] = 1", impl.ErrIndex)
	}
	for steps, want := range map[int]string{1: "7", 19: "7", 20: "7", 21: "error 11", 22: "error 11"} {
		text := fmt.Sprintf("let end = {}; let t = end; for i = 1, %d {t = setkind({}, {.setindex = t})}; try {t.x = 7; return end.x} catch e {return \"error \" .. e.code}", steps)
		checkShown(t, text, ranText(t, text, plenty()).Vals, []string{want})
		text = fmt.Sprintf("let got; let t = {}; setkind(t, {.setindex = fn(v, k, x) {got = x}}); for i = 1, %d {t = setkind({}, {.setindex = t})}; try {t.x = 7; return got} catch e {return \"error \" .. e.code}", steps)
		checkShown(t, text, ranText(t, text, plenty()).Vals, []string{want})
	}
	checkCode(t, "let t = {}; setkind(t, {.setindex = t}); t.x = 1", impl.ErrLoop)
	// A full table has room for what is there and for nil; one that is passed on to is full by itself.
	checkSays(t, "let t = {}; for i = 1, 500 {t[i] = i}; let u = setkind({}, {.setindex = t}); u[3] = 9; print(t[3]); try {u.x = 1} catch e {print(e.code)}; u.x = nil", "9", "4")
}

// P4: several targets are written in order, whatever their handlers do meanwhile.
func TestSetWithHandlers(t *testing.T) {
	checkSays(t, `let log = {}
fn kind1(name) {return setkind({}, {.setindex = fn(t, k, v) {print(name, k, v); rawset(t, k, v)}})}
let a, b, x = kind1("a"), kind1("b")
a.p, x, b.q, a.r = 1, 2, 3
print(a.p, x, b.q, a.r)
let t = {1, 2}
let i = 1
i, t[i], t[i + 1] = 2, "one", "two"
print(i, t[1], t[2])
t, t[1] = nil, 5
print(t)`, "a p 1", "b q 3", "a r nil", "1 2 3 nil", "2 one two", "nil")
}
