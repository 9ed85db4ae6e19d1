package tests

import (
	"testing"

	"loop.example/heddle/impl"
)

// P4: the defers of a block are run when it is left, the last one first, with what was worked out when they were put off.
func TestDefers(t *testing.T) {
	checkSays(t, "{defer print(1); defer print(2); print(3)}; print(4)", "3", "2", "1", "4")
	checkSays(t, "let a = 1; {defer print(a, a + 1); a = 7; print(a)}", "7", "1 2")
	checkSays(t, "let f = print; {defer f(1); f = read}", "1")
	checkSays(t, "for i = 1, 3 {defer print(i)}", "1", "2", "3")
	checkSays(t, "let i = 0; while i < 2 {defer print(\"d\", i); i = i + 1; print(i)}", "1", "d 0", "2", "d 1")
	checkSays(t, "if true {defer print(1); print(2)}; defer print(3); print(4)", "2", "1", "4", "3")
	checkSays(t, "fn f() {defer print(1); return print(2), 3}; print(f())", "2", "1", "nil 3")
	checkSays(t, "defer print(1); return 2", "1", "gives 2")
	checkSays(t, "defer print(1); throw 2", "1", "2 at main:1")
	checkSays(t, "{print(1); if true {return 5}; defer print(2)}", "1", "gives 5")
	checkSays(t, "for i = 1, 2 {if i == 2 {break}; defer print(i)}", "1")
	// One that is called as a handler, one that gives values, which are dropped.
	checkSays(t, "{defer setkind({}, {.call = fn(t, ...) {print(...); return 1, 2}})(7, 8)}; return", "7 8")
	// What a return gives was worked out ahead of the defers.
	checkSays(t, "fn f() {let a = 1; defer (fn() {a = 2; print(a)})(); return a}; print(f())", "2", "1")
	checkSays(t, "fn f() {let t = {1}; defer (fn() {t[1] = 2})(); return t}; print(f()[1])", "2")
}

// P4: an error that leaves a defer takes the place of whatever way the block was being left; the others are still run.
func TestDefersThatThrow(t *testing.T) {
	boom := "fn boom(x) {throw x}\n"
	checkSays(t, boom+"try {defer print(1); defer boom(2); defer print(3); throw 4} catch e {print(\"caught\", e)}", "3", "1", "caught 2")
	checkSays(t, boom+"try {defer boom(1); defer boom(2); print(0)} catch e {print(\"caught\", e)}", "0", "caught 1")
	checkSays(t, boom+"fn f() {try {defer boom(1); return 5} catch e {print(\"caught\", e)}; return 6}; print(f())", "caught 1", "6")
	checkSays(t, boom+"fn f() {defer boom(1); return 5}; try {print(f())} catch e {print(\"caught\", e)}", "caught 1")
	checkSays(t, boom+"for i = 1, 3 {try {defer boom(i); if i == 2 {break}; next} catch e {print(\"caught\", e)}; print(\"behind\", i)}",
		"caught 1", "behind 1", "caught 2", "behind 2", "caught 3", "behind 3")
	checkSays(t, boom+"try {for i = 1, 3 {defer print(\"d\", i); defer boom(i); break}; print(0)} catch e {print(\"caught\", e)}", "d 1", "caught 1")
	checkSays(t, boom+"try {for i = 1, 3 {defer boom(i); next}; print(0)} catch e {print(\"caught\", e)}", "caught 1")
	checkSays(t, boom+"try {{defer boom(1); {defer boom(2); {defer boom(3); throw 4}}}} catch e {print(\"caught\", e)}", "caught 1")
	checkSays(t, boom+"try {let n; defer n(1); print(1)} catch e, t {print(e.code, e.line, t)}", "1", "6 2 main:2")
	checkSays(t, boom+"defer boom(1)\ndefer boom(2)\nthrow 3", "1 at boom:1 main:2")
	checkSays(t, boom+"defer boom(1)\nreturn 3", "1 at boom:1 main:2")
	checkRecs(t, boom+"try {\ndefer boom(1)\ndefer print(2)\nthrow 3\n} catch e {}",
		"throw 0.0:5 3", "print 0.0:4 2", "call 0.1:1 boom", "throw 0.1:1 1", "back 0.1:0 error", "catch 0.0:2 1")
}

// P4: a fn that is put off has defers, tries and errors of its own.
func TestDefersWithin(t *testing.T) {
	checkSays(t, `fn f(x) {
defer print("f", x)
try {
defer print("in f")
throw x + 1
} catch e {print("caught", e)}
}
try {
defer f(1)
defer (fn() {defer f(5); throw 6})()
throw 9
} catch e, t {print(e, t)}`, "in f", "caught 6", "f 5", "in f", "caught 2", "f 1", "6 fn:10 main:10")
	checkSays(t, "fn d(n) {if n > 0 {defer d(n - 1)}; print(n)}; {defer d(2)}", "0", "1", "2")
	checkSays(t, "fn f() {defer (fn() {defer (fn() {throw 1})(); throw 2})(); throw 3}; try {f()} catch e {print(e)}", "1")
}

// P4: while a defer is run, its own line is at hand in its call; behind that the one ahead of it is again.
func TestDeferLines(t *testing.T) {
	checkSays(t, `fn where() {
try {throw 1} catch e, t {print(t)}
}
fn f() {
defer where()
defer where()
where()
}
f()
{
defer where()
let a = 1
}
try {
defer where()
throw 1
} catch e, t {
where()
}`, "where:2 f:7 main:9", "where:2 f:6 main:9", "where:2 f:5 main:9", "where:2 main:11", "where:2 main:15", "where:2 main:18")
	checkRecs(t, "fn f() {\ndefer print(1)\nprint(2)\n}\nf()", "call 0.1:1 f", "print 0.1:3 2", "print 0.1:2 1", "back 0.1:0")
	checkRecs(t, "while true {\ndefer print(1)\nbreak\n}\nwhile print(2) {}", "print 0.0:2 1", "print 0.0:5 2")
	checkRecs(t, "let n = 0\nwhile print(n) or n < 1 {\ndefer print(9)\nn = 1\n}", "print 0.0:2 0", "print 0.0:3 9", "print 0.0:2 1")
}

// P4: what is thrown leaves all up to the innermost try in whose first block it was thrown.
func TestTries(t *testing.T) {
	checkSays(t, "try {throw 1; print(0)} catch e {print(e)}", "1")
	checkSays(t, "try {print(1)} catch e {print(2)}; print(3)", "1", "3")
	checkSays(t, "try {try {throw 1} catch e {print(\"in\", e); throw 2}; print(0)} catch e {print(\"out\", e)}", "in 1", "out 2")
	checkSays(t, "let g; fn f() {g(); print(0)}; g = fn() {throw 1}; try {f(); print(0)} catch e, t {print(e, t)}", "1 fn:1 f:1 main:1")
	checkSays(t, "try {let t = setkind({}, {.index = fn(t, k) {throw k}}); print(t.x); print(0)} catch e {print(e)}", "x")
	checkSays(t, "try {throw nil} catch e {print(e)}; try {throw false} catch e {print(e)}; try {throw {1}} catch e {print(e[1])}", "nil", "false", "1")
	checkSays(t, "let t = {}; try {t[1], t[nil], t[2] = 1, 2, 3} catch e {print(e.code, t[1], t[2])}", "5 1 nil")
	checkSays(t, "let a = 1; try {let a = 2; a = 3; throw a} catch e {print(a, e)}", "1 3")
	checkSays(t, "try {throw 1} catch e, t {e = 2; t = 3; print(e, t)}", "2 3")
	checkSays(t, "fn f() {try {return 1} catch e {return 2}}; print(f()); throw 3", "1", "3 at main:1")
	checkSays(t, "let k = task(fn() {throw 1}); try {print(resume(k))} catch e {print(0)}", "false 1 fn:1")
	checkSays(t, "let k = task(fn() {try {yield(1); throw 2} catch e {print(\"caught\", e)}}); print(resume(k)); print(resume(k))", "true 1", "caught 2", "true")
}

// P4: what the machine throws, and how errors are told: at the throw, at the catch, at the end.
func TestErrorsTold(t *testing.T) {
	checkSays(t, "let a\ntry {\na.x = 1\n} catch e, t {for k, v in e {print(k, v)}; print(t, type(t), type(e), kind(e))}", "code 7", "line 3", "main:3 str table nil")
	checkRecs(t, "try {throw {.code = 5}} catch e {}", "throw 0.0:1 error 5", "catch 0.0:1 error 5")
	checkRecs(t, "try {throw {.code = -7, .x = 1}} catch e {}", "throw 0.0:1 error -7", "catch 0.0:1 error -7")
	checkRecs(t, "try {throw {.code = 5.0}} catch e {}", "throw 0.0:1 table", "catch 0.0:1 table")
	checkRecs(t, "try {throw {.code = \"5\"}} catch e {}", "throw 0.0:1 table", "catch 0.0:1 table")
	checkRecs(t, "try {throw {}} catch e {}", "throw 0.0:1 table", "catch 0.0:1 table")
	checkRecs(t, "try {throw \"text\"} catch e {}", "throw 0.0:1 text", "catch 0.0:1 text")
	checkRecs(t, "try {throw 1.5} catch e {}; try {throw nil} catch e {}; try {throw print} catch e {}",
		"throw 0.0:1 3p-1", "catch 0.0:1 3p-1", "throw 0.0:1 nil", "catch 0.0:1 nil", "throw 0.0:1 builtin", "catch 0.0:1 builtin")
	// A handler is not asked for the code, and it is told anew each time.
	checkRecs(t, "try {throw setkind({}, {.index = print})} catch e {}", "throw 0.0:1 table", "catch 0.0:1 table")
	checkRecs(t, "let x = {.code = 1}; try {defer (fn() {x.code = 2})(); throw x} catch e {x.code = nil; print(1)}",
		"throw 0.0:1 error 1", "call 0.1:1", "back 0.1:0", "catch 0.0:1 error 2", "print 0.0:1 1")
	for text, want := range map[string]string{
		"throw 7": "7 at main:1", "throw {.code = 8}": "error 8 at main:1", "throw {}": "table at main:1",
		"let a\na()": "error 6 at main:2", "let x = {.code = 1}; defer rawset(x, \"code\", 3); throw x": "error 3 at main:1", "throw \"\"": " at main:1",
	} {
		checkSays(t, text, want)
	}
}

// P4: a trace tells of the open calls of its task, the innermost first, as they stood when the error was thrown.
func TestTraces(t *testing.T) {
	checkSays(t, `let b
fn a() {
b()
}
b = fn() {

throw 1
}
try {
a()
} catch e, t {print(t)}
let k = task(a)
print(resume(k))
fn deep(n) {
if n == 0 {throw 0}
deep(n - 1)
}
deep(3)`, "fn:7 a:3 main:10", "false 1 fn:7 a:3", "0 at deep:15 deep:16 deep:16 deep:16 main:18")
	u := boundText(t, "fn f() {throw 1}; f()")
	u.Fns[0].Name, u.Fns[1].Name = "", "a b"
	checkShown(t, "names", saysOf(ranUnit(t, "names", u, plenty())), []string{"1 at a b:1 fn:1"})
	// A trace is made once: what is thrown again gets a new one, an error that goes on does not.
	checkSays(t, "fn f() {\nthrow 1\n}\ntry {\ntry {\nf()\n} catch e, t {\nprint(t)\nthrow t\n}\n} catch e, t {\nprint(e, t)\n}", "f:2 main:6", "f:2 main:6 main:9")
}

// P4: the records of a throw and of its catch.
func TestThrowRecords(t *testing.T) {
	checkRecs(t, "fn f() {\ntry {\nthrow 1\n} catch e {\nprint(e)\n}\n}\nf()",
		"call 0.1:1 f", "throw 0.1:3 1", "catch 0.1:2 1", "print 0.1:5 1", "back 0.1:0")
	checkRecs(t, "fn f() {\nthrow 1\n}\nfn g() {\nf()\n}\ntry {\ng()\n} catch e {}",
		"call 0.2:4 g", "call 0.1:1 f", "throw 0.1:2 1", "back 0.1:0 error", "back 0.2:0 error", "catch 0.0:7 1")
	checkRecs(t, "let k = task(fn() {\nthrow 1\n})\nresume(k)", "turn 1.0:0 resume", "call 1.1:1", "throw 1.1:2 1", "back 1.1:0 error", "turn 0.0:0 error")
	if r := ranText(t, "throw 1", plenty()); r.Code != 1 || len(r.Recs) != 2 || r.Recs[1] != (impl.Rec{Kind: impl.RecThrow, Line: 1, Text: "1"}) || len(r.Vals) != 0 {
		t.Errorf("%+v", r)
	}
}
