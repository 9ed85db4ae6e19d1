package tests

import (
	"fmt"
	"strings"
	"testing"
)

// checkReached: each text says, by cells, what is reached in it; the texts are made so that just one thing keeps what is counted.
func checkReached(t *testing.T, text string, want ...string) {
	t.Helper()
	checkSays(t, text, want...)
	// What collect counts is what cells counts, where there is nothing weak and nobody has a last word.
	if !strings.Contains(text, "weak") && !strings.Contains(text, "last") {
		checkSays(t, strings.ReplaceAll(text, "cells()", "collect()"), want...)
	}
}

// P4: each thing that is reached, alone.
func TestReached(t *testing.T) {
	checkReached(t, "print(cells())", "0")
	checkReached(t, "let a = {1, 2}; print(cells()); a = nil; print(cells())", "3", "0")
	checkReached(t, "let a = {{}, .x = {}}; print(cells())", "5")
	checkReached(t, "let a = {}; a.a = a; print(cells()); a = 1; print(cells())", "2", "0")
	checkReached(t, "let a = {[{}] = 1}; print(cells())", "3")
	checkReached(t, "let a = setkind({}, {}); print(cells())", "2")
	// Variables in scope, and no longer.
	checkReached(t, "{let a = {}; print(cells())}; print(cells())", "1", "0")
	checkReached(t, "let a = cells(); let b = {}; print(a, cells())", "0 1")
	checkReached(t, "for k, v in {{}, {}} {print(cells())}; print(cells())", "5", "5", "0")
	checkReached(t, "for i = 1, 2 {let a = {}; print(cells())}", "1", "1")
	checkReached(t, "try {throw {}} catch e, t {print(cells())}; print(cells())", "1", "0")
	checkReached(t, "let n = 0; while (fn() {print(cells()); n = n + 1; return n < 3})() {let a = {}}; n = fn() {}", "2", "2", "2")
	checkReached(t, "if true {let a = {}; print(cells())}; print(cells())", "1", "0")
	// Parameters and rest arguments, the fn that is called.
	checkReached(t, "(fn(a) {print(cells()); a = nil; print(cells())})({})", "2", "1")
	checkReached(t, "(fn(...) {print(cells())})({}, {}); print(cells())", "3", "0")
	checkReached(t, "(fn(a) {print(cells())})({}, {})", "2")
	checkReached(t, "let a, b = 1, 2; (fn() {print(cells(), a, b)})()", "3 1 2")
	// A fn and what it closes over.
	checkReached(t, "let f; {let a = {}; f = fn() {return a}}; print(cells()); f = nil; print(cells())", "3", "0")
	checkReached(t, "let f; {let a = {}; f = fn() {return fn() {return a}}}; f = f(); print(cells())", "3")
	checkReached(t, "let f; {let a = {1}; f = fn() {a = nil}}; print(cells()); f(); print(cells())", "4", "2")
	// Tasks: a new one's fn, a waiting one's calls, nothing of one that is done.
	checkReached(t, "let k = task(fn() {}); print(cells())", "2")
	checkReached(t, "let x = {}; let k; {let y = x; k = task(fn() {yield(y)})}; x = nil; print(cells())", "4")
	checkReached(t, "let k = task(fn(a) {let b = {}; yield(); print(a, b)}); resume(k, {}); print(cells())", "4")
	checkReached(t, "let k = task(fn(...) {yield()}); resume(k, {}, {}); print(cells())", "4")
	checkReached(t, "let k = task(fn(a) {let b = {}; yield()}); resume(k, {}); resume(k); print(cells())", "1")
	checkReached(t, "let k = task(fn(a) {let b = {}; yield()}); resume(k, {}); giveup(k); print(cells())", "1")
	checkReached(t, "let k = task(fn() {}); giveup(k); print(cells())", "1")
	checkReached(t, "let k = task(fn(a) {let b = {}; yield()}); resume(k, {}); k = nil; print(cells())", "0")
	checkReached(t, "let t = {}; let k = task(fn() {yield()}); t.k = k; t[k] = 1; k = nil; resume(t.k); print(cells())", "5")
	checkReached(t, "resume(task(fn() {let a = {}; print(cells())})); print(cells())", "3", "0")
	checkReached(t, "let a = {}; resume(task(fn() {resume(task(fn() {print(cells())}))}))", "5")
	// A task that is busy keeps what it has.
	checkReached(t, "(fn(a) {resume(task(fn() {print(cells())}))})({})", "4")
}

// P4: what expressions and statements have worked out and still need, and what they don't.
func TestReachedInExpressions(t *testing.T) {
	checkReached(t, "let a = {} == cells(); let b = ({} == print(cells()))", "1")
	checkReached(t, "print({} and cells(), {} or cells())", "0 table")
	checkReached(t, "print(type({}) and cells())", "0")
	checkReached(t, "let f = fn(...) {}; f({}, {1}, print(cells()))", "4")
	checkReached(t, "print(type({}), cells())", "table 0")
	checkReached(t, "(fn() {})({}, print(cells()))", "2")
	checkReached(t, "let a = {{}, print(cells()), {}}", "3")
	checkReached(t, "let a = {[{}] = print(cells())}", "2")
	checkReached(t, "let a = {[{}] = 1, [2] = print(cells())}", "3")
	checkReached(t, "let a = ({})[print(cells())]", "1")
	checkReached(t, "let a, b = {}, print(cells())", "1")
	checkReached(t, "let a = {}, print(cells())", "1")
	checkReached(t, "let a, b; a, b = {}, print(cells())", "1")
	checkReached(t, "let a = {}; a = print(cells()); print(cells())", "1", "0")
	checkReached(t, "return {}, print(cells())", "1", "gives table")
	checkReached(t, "try {for i = {}, print(cells()), 1 {}} catch e {}", "1")
	checkReached(t, "for k, v in {1, 2} {print(cells())}", "3", "3")
	checkReached(t, "let n = 0; for v in fn() {n = n + 1; print(cells()); if n < 2 {return {}}} {print(cells())}", "2", "3", "2")
	checkReached(t, "if {} {print(cells())}", "0")
	checkReached(t, "let n = 0; while n < 1 and {} {print(cells()); n = 1}", "0")
	checkReached(t, "let a = -setkind({}, {.neg = fn(x) {print(cells()); x = nil; print(cells())}})", "4", "1")
	// The operands of a handler are its arguments, and nobody else's.
	checkReached(t, "let a = setkind({}, {.add = fn(x, y) {print(cells()); x = nil; print(cells()); y = nil; print(cells())}}) + {}", "5", "2", "1")
	checkReached(t, "let a = setkind({}, {.index = fn(x) {x = nil; print(cells())}})[{}]", "1")
	checkReached(t, "setkind({}, {.call = fn(x) {x = nil; print(cells())}})()", "1")
	checkReached(t, "for v in setkind({}, {.each = fn(x) {x = nil; print(cells()); return read}}) {}", "1")
	checkReached(t, "let f = fn(x) {x = nil; print(cells())}; f({}); print(cells())", "1", "1")
}

// P4: of several targets, the parts and the values of those that have not got theirs.
func TestReachedInSets(t *testing.T) {
	checkReached(t, "let t = {}; t[{}], t[{1}] = 1, print(cells())", "4")
	checkReached(t, `let s, x = {}
let h = setkind({}, {.setindex = fn(t, k, v) {k = nil; v = nil; t = nil; print(cells())}})
h[{}], x, h[{1}], s[1] = {}, {}, {}, 5, {1, 2, 3}`,
		// The kind 2 and its fn 1 by h 1, s 1; then x' table, h's second key and the third value are left: 1 + 2 + 1.
		"9", "6")
	checkReached(t, "let f = fn() {print(cells())}; let h = setkind({}, {.setindex = f}); let x; h.a, h.b, x = {}, {}, {}", "6", "5")
	checkReached(t, "({})[type(print(cells()))] = 1", "1")
	checkReached(t, "let t = {}; t[1] = print(cells())", "1")
}

// P4: what is put off, and what is on its way while it is run.
func TestReachedWhileLeaving(t *testing.T) {
	checkReached(t, "{defer print({}); print(cells())}; print(cells())", "1", "table", "0")
	checkReached(t, "{defer (fn() {print(1)})(); print(cells())}; print(cells())", "1", "1", "0")
	checkReached(t, "{defer (fn(a) {print(cells()); a = nil; print(cells())})({})}", "2", "1")
	// c tells what is reached when it is called; it is 1 of that itself, and what closes over it has 1 more.
	c := "fn c() {print(cells())}\n"
	// The block's own variables stay while its defers are run, however it is left; those of blocks inside do not.
	for _, way := range []string{"let done", "return", "throw 1", "break", "next"} {
		checkReached(t, fmt.Sprintf(c+"fn f() {for i = 1, 1 {let a = {}; defer c(); let b = {1}; {let d = {1, 2}; %s}}}\ntry {f()} catch e {}\n", way), "6")
		checkReached(t, fmt.Sprintf(c+"fn f() {for k, v in {1} {defer c(); let b = {}; for x, y in {5, 6, 7} {{%s}; break}; return}}\ntry {f()} catch e {}\n", way), "6")
	}
	// A declaration that has not come yet declares nothing.
	checkReached(t, c+"let none; try {defer c(); let a, b = {}, none()} catch e {}", "4")
	// The error on its way, the values of a return; not what took part in working them out.
	checkReached(t, c+"try {defer c(); throw {1, 2}} catch e {e = nil; print(cells())}", "4", "1")
	checkReached(t, c+"(fn() {defer c(); return {}, {1}})(); print(cells())", "6", "1")
	checkReached(t, c+"(fn() {defer c(); defer (fn() {throw 1})(); return {}, {1}})()", "3", "1 at fn:2 fn:2 main:2")
	checkReached(t, c+"try {defer c(); defer (fn() {throw {1}})(); throw {1, 2, 3}} catch e {}", "3")
	checkReached(t, c+"try {{defer c(); throw {}}; print(0)} catch e {}", "2")
	checkReached(t, c+"fn f(t) {throw {}}; try {{defer c(); f({1, 2})}} catch e {}", "3")
	// While a task is given up: the last error that was dropped; what was on its way is let go of.
	checkReached(t, c+"let k = task(fn() {defer c(); defer (fn() {throw {1, 2}})(); defer (fn() {throw {1, 2, 3, 4}})(); yield()}); resume(k); giveup(k); print(cells())", "7", "2")
	checkReached(t, c+"let k = task(fn() {defer c(); defer (fn() {yield(); print(0)})(); throw {1, 2}}); resume(k); print(cells()); giveup(k); print(cells())", "8", "4", "2")
	checkReached(t, c+"let k = task(fn() {defer c(); defer (fn() {yield(); print(0)})(); return {1, 2}}); resume(k); print(cells()); giveup(k); print(cells())", "8", "4", "2")
	checkReached(t, "let k = task(fn() {defer print({}); yield()}); resume(k); print(cells())", "3")
}

// P4: the arguments of the builtin that is at work are not reached.
func TestReachedByArguments(t *testing.T) {
	checkReached(t, "print(cells({}, {1}))", "0")
	checkReached(t, "print(collect({}, {1}))", "0")
	checkReached(t, "let a = {}; print(cells(a, {}))", "1")
	checkReached(t, "let k = task(fn() {print(cells()); yield(); print(cells())}); resume(k, {}); resume(k, {}, {1, 2})", "2", "2")
	checkReached(t, "let k = task(fn() {print(cells()); let a = yield({}); print(cells())}); resume(k); print(cells()); resume(k, {})", "2", "2", "3")
	checkReached(t, "let t = setkind({}, {.call = cells}); print(t()); print(setkind({}, {.call = cells})())", "3", "3")
	checkReached(t, "print(-setkind({}, {.neg = cells}), setkind({}, {.add = collect}) + {})", "0 0")
}

// P4: weak keys, weak values, both.
func TestWeakTables(t *testing.T) {
	weak := func(how, rest string) string {
		return "let w, a, b = setkind({}, {.weak = " + how + "}), {}, {1}\nw[a], w[{}], w.x, w.y, w[1] = 1, 2, a, {}, 3\nw[b], w[{1, 2}] = {}, b\n" +
			"fn show() {let n = 0; for k, v in w {n = n + 1}; return n, w[a], w.x == a, w.y ~= nil, w[1], w[b] ~= nil}\n" + rest
	}
	// The kind 2, w 1 and its 7 pairs, a 1, b 2, show 4: 17 with what only w keeps.
	checkSays(t, weak(`"k"`, "print(cells()); print(show()); print(collect()); print(show())"), "19", "7 1 true true 3 true", "17", "5 1 true true 3 true")
	checkSays(t, weak(`"v"`, "print(cells()); print(show()); print(collect()); print(show())"), "21", "7 1 true true 3 true", "19", "5 1 true false 3 false")
	checkSays(t, weak(`"kv"`, "print(cells()); print(collect()); print(show())"), "17", "13", "3 1 true false 3 false")
	checkSays(t, weak(`"xvyk"`, "print(cells()); print(collect()); print(show())"), "17", "13", "3 1 true false 3 false")
	for _, how := range []string{`""`, `"x"`, "1", "nil", "true", "{}", `"K"`} {
		checkSays(t, weak(how, "collect(); print(show())"), "7 1 true true 3 true")
	}
	// Once nobody else has them, what was weak goes.
	checkSays(t, weak(`"k"`, "a, b = nil, nil; collect(); let n = 0; for k, v in w {n = n + 1}; print(n, type(w.x), type(w.y))"), "4 table table")
	// A value that is a strong key of the same table goes when that key has gone, one collect later.
	checkSays(t, weak(`"v"`, "a, b = nil, nil; collect(); for k, v in w {print(type(k), v)}; collect(); for k, v in w {print(type(k), v)}"),
		"table 1", "table 2", "str table", "int 3", "table table", "table 1", "table 2", "str table", "int 3")
	// A weak key or value that is no table, fn or task stays.
	checkSays(t, "let w = setkind({.a = 1, [1] = \"s\", [print] = print, [true] = 1.5}, {.weak = \"kv\"}); collect(); print(w.a, w[1], w[print], w[true])", "1 s builtin 3p-1")
}

// P4: the value beside a weak key is reached once the key is reached by other ways.
func TestWeakKeysAndTheirValues(t *testing.T) {
	// A value that reaches its own key does not keep it.
	checkSays(t, "let w = setkind({}, {.weak = \"k\"}); {let k = {}; w[k] = {k}}; print(cells(), collect())", "4 3")
	checkSays(t, "let w = setkind({}, {.weak = \"k\"}); {let k = {}; w[k] = fn() {return k}}; print(collect())", "3")
	// A chain of keys that are each the value of another.
	chain := "let w, first = setkind({}, {.weak = \"k\"}), {}\n{let k = first; for i = 1, 5 {let v = {i}; w[k] = v; k = v}}\n"
	checkSays(t, chain+"print(cells(), collect()); first = nil; print(collect())", "19 19", "3")
	// Backwards: the pairs came in the other order.
	checkSays(t, "let w, first = setkind({}, {.weak = \"k\"})\n{let v = {0}; for i = 1, 5 {let k = {i}; w[k] = v; v = k}; first = v}\nprint(cells(), collect()); first = nil; print(collect())", "20 20", "3")
	// Through two weak tables, and by a table's kind, a fn's variable, a task.
	checkSays(t, "let w, u, a = setkind({}, {.weak = \"k\"}), setkind({}, {.weak = \"k\"}), {}\n{let b, c = {}, {}; w[a] = b; u[b] = c; w[c] = {}}\nprint(collect()); a = nil; print(collect())", "13", "6")
	checkSays(t, "let w, a = setkind({}, {.weak = \"k\"})\n{let b = {}; w[b] = {1}; a = fn() {return b}}\nprint(collect())", "9")
	checkSays(t, "let w, a = setkind({}, {.weak = \"k\"})\n{let b = {}; w[b] = {1}; a = task(fn() {return b})}\nprint(collect()); giveup(a); print(collect())", "10", "4")
	// A key that is itself held only by a weak value.
	checkSays(t, "let w, v = setkind({}, {.weak = \"k\"}), setkind({}, {.weak = \"v\"})\n{let k = {}; w[k] = {}; v[1] = k}\nprint(cells(), collect())", "8 6")
}

// P4: the pairs that go were there as long as nobody collected; keys that come again come behind the others.
func TestWeakPairsGo(t *testing.T) {
	checkSays(t, "let w = setkind({}, {.weak = \"v\"}); w.a, w.b, w.c = {}, 2, {}; for k in w {print(k)}; collect(); for k in w {print(k)}; w.a = 1; for k in w {print(k)}", "a", "b", "c", "b", "b", "a")
	checkSays(t, "let w = setkind({}, {.weak = \"v\"}); w[1], w[2] = {}, {}; print(#w, cells()); collect(); print(#w, cells())", "2 5", "0 3")
	// In the midst of going through it.
	checkSays(t, "let w = setkind({1, {}, 3}, {.weak = \"v\"}); for k, v in w {v = nil; print(k); collect()}", "1", "3")
	// Tables that are not reached lose nothing until they are reached again, as by a last word.
	checkSays(t, "let w = setkind({}, {.weak = \"v\", .last = fn(t) {print(type(t[1]), type(t[2])); collect(); print(type(t[1]))}}); w[1] = {}; w = nil; collect()", "table nil", "nil")
	checkSays(t, `let back
{let w = setkind({}, {.weak = "v", .last = fn(t) {back = t}})
w[1] = {}}
collect()
print(type(back), type(back[1]))
collect()
print(type(back), type(back[1]))`, "table nil", "table nil")
}
