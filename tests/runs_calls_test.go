package tests

import (
	"fmt"
	"strings"
	"testing"

	"loop.example/heddle/impl"
)

// P4: arguments become parameters, nil where there are none; what is left over goes, or to the rest.
func TestArguments(t *testing.T) {
	checkSays(t, "fn f(a, b) {print(a, b)}; f(); f(1); f(1, 2); f(1, 2, 3); f(nil, 2)", "nil nil", "1 nil", "1 2", "1 2", "nil 2")
	checkSays(t, "fn f(a, ...) {print(a, ...); let t = {...}; print(#t)}; f(); f(1); f(1, 2, 3)", "nil", "0", "1", "0", "1 2 3", "2")
	checkSays(t, "fn f(a) {a = a + 1; return a}; let b = 1; print(f(b), b)", "2 1")
	checkSays(t, "fn f(a) {a.x = 1}; let b = {}; f(b); print(b.x)", "1")
	checkSays(t, "fn f() {}; print(f(), (f())); fn g() {return}; print(g())", "nil nil", "")
	checkSays(t, "fn f() {return 1; print(2)}; print(f())", "1")
	checkSays(t, "print((fn(...) {return (fn(...) {return ...})(...), ...})(1, 2))", "1 1 2")
	checkSays(t, "fn f(...) {for i = 1, 2 {print(...)}; return fn() {return 7}}; print(f(1, 2)())", "1 2", "1 2", "7")
}

// P4: the records of calls.
func TestCallRecords(t *testing.T) {
	checkRecs(t, "fn f() {\nreturn 1\n}\nlet g = fn() {\nf()\n}\ng()\n", "call 0.2:4", "call 0.1:1 f", "back 0.1:0", "back 0.2:0")
	checkRecs(t, "fn f() {throw 1}; try {f()} catch e {}", "call 0.1:1 f", "throw 0.1:1 1", "back 0.1:0 error", "catch 0.0:1 1")
	checkRecs(t, "fn f() {yield()}; fn g() {f()}; let k = task(g); resume(k); giveup(k)",
		"turn 1.0:0 resume", "call 1.2:1 g", "call 1.1:1 f", "turn 0.0:0 yield", "turn 1.0:0 giveup", "back 1.1:0 gone", "back 1.2:0 gone", "turn 0.0:0 gone")
	checkRecs(t, "type(1); setkind({}, {.call = fn() {}})()", "call 0.1:1", "back 0.1:0")
	u := boundText(t, "fn f() {}; f()")
	u.Fns[1].Name, u.Fns[1].Line = "other\nname", 77
	checkShown(t, "names", recsOf(ranUnit(t, "names", u, plenty())), []string{"call 0.1:77 other\nname", "back 0.1:0"})
}

// P4: as many calls may be open as Depth says, the text among them; a call of one more is ErrDepth, where it was called.
func TestDepth(t *testing.T) {
	for _, depth := range []int{1, 2, 3, 7, 60} {
		in := plenty()
		in.Depth = depth
		text := "let most = 0\nfn f(n) {\nmost = n\nf(n + 1)\n}\ntry {f(2)} catch e, t {print(most, e.code, e.line, t)}"
		most, line, trace := depth, 4, strings.Repeat("f:4 ", depth-1)+"main:6"
		if depth == 1 {
			most, line = 0, 6
		}
		r := ranText(t, text, in)
		checkShown(t, text, saysOf(r), []string{fmt.Sprint(most, " 8 ", line, " ", trace)})
		calls := 0
		for _, rec := range r.Recs {
			if rec.Kind == impl.RecCall {
				calls++
			}
		}
		if calls != depth-1 {
			t.Errorf("depth %d: %d calls", depth, calls)
		}
	}
	in := plenty()
	in.Depth = 1
	// Builtins open no call.
	checkShown(t, "builtins", saysOf(ranText(t, "print(type(text(1)))", in)), []string{"str"})
	// Tasks that wait for one another count together; one that waits by itself does not.
	in.Depth = 4
	text := `fn try1(f, ...) {try {print(f(...))} catch e, t {print(e.code, t)}}
fn one() {return 1}
let a = task(fn() {
print(resume(task(fn() {
try {one()} catch e, t {print(e.code, t)}
})))
try {print(one())} catch e, t {print(e.code, t)}
yield()
print(one())
})
print(resume(a))
fn three() {return one()}
print(three())
print(resume(a))`
	checkShown(t, text, saysOf(ranText(t, text, in)), []string{"true", "1", "true", "1", "1", "true"})
	in.Depth = 3
	checkShown(t, text, saysOf(ranText(t, text, in)), []string{"8 fn:5", "true", "1", "true", "1", "1", "true"})
	// A task whose own call cannot be opened has none: no fn, no line, no trace.
	in.Depth = 1
	text = "let k = task(fn() {})\nprint(resume(k))\nprint(status(k))"
	r := ranText(t, text, in)
	checkShown(t, text, recsOf(r), []string{"turn 1.0:0 resume", "throw 1.0:0 error 8", "turn 0.0:0 error", "print 0.0:2 false table", "print 0.0:3 done"})
	in.Depth = 2
	text = "let k = task(fn() {\nlet x = task(fn() {})\nlet a, b, c = resume(x)\nprint(a, b.code, b.line, c == \"\")\n})\nprint(resume(k))"
	checkShown(t, text, saysOf(ranText(t, text, in)), []string{"false 8 0 true", "true"})
}

// P4: a table with a handler call is called by it, itself ahead of the arguments; twenty of these one behind the other, no more.
func TestCallHandlers(t *testing.T) {
	checkSays(t, "let t = {}; setkind(t, {.call = fn(self, ...) {print(self == t, ...); return 7, 8}}); print(t(1, 2), t())", "true 1 2", "true", "7 7 8")
	checkSays(t, "let a, b = {}, {}; setkind(b, {.call = fn(x, y, z) {print(x == b, y == a, z)}}); setkind(a, {.call = b}); a(5)", "true true 5")
	checkSays(t, "let t = setkind({}, {.call = print}); t(1, 2)", "table 1 2")
	checkCode(t, "setkind({}, {.call = 5})()", impl.ErrCall)
	checkCode(t, "setkind({}, {.call = {}})()", impl.ErrCall)
	checkCode(t, "setkind({}, {.call = false})()", impl.ErrCall)
	checkCode(t, "setkind({}, {.index = print})()", impl.ErrCall)
	for links, want := range map[int]string{1: "2", 2: "3", 19: "20", 20: "21", 21: "error 11", 30: "error 11"} {
		text := fmt.Sprintf("let f = fn(...) {let t = {...}; return #t}\nfor i = 1, %d {f = setkind({}, {.call = f})}\ntry {return f(9)} catch e {return \"error \" .. e.code}", links)
		r := ranText(t, text, plenty())
		checkShown(t, text, r.Vals, []string{want})
	}
	// A ring of tables is as long as can be: 21 calls are begun, the last of which is of the table that has the 21st handler.
	text := "let t = {}; setkind(t, {.call = t}); t()"
	r := ranText(t, text, plenty())
	if r.Error != "error 11" || r.Ticks != 2+1+1+1+20 {
		t.Errorf("%+v", r)
	}
	in := plenty()
	for ticks, code := range map[int]int{24: 2, 25: 1} {
		in.Ticks = ticks
		if r := ranText(t, text, in); r.Code != code {
			t.Errorf("%d ticks: %+v", ticks, r)
		}
	}
	// What stands at the end of a chain may be no fn, and that counts as a call too.
	text = "let f = 5; for i = 1, 20 {f = setkind({}, {.call = f})}; f()"
	if r := ranText(t, text, plenty()); r.Error != "error 6" {
		t.Errorf("%+v", withoutRecs(r))
	}
}
