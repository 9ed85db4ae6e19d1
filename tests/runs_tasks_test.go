package tests

import (
	"fmt"
	"runtime"
	"testing"
	"time"

	"loop.example/heddle/impl"
)

// P4: the states of a task, asked by others and by itself.
func TestTaskStates(t *testing.T) {
	checkSays(t, `let k, inner
k = task(fn() {
print(status(k))
inner = task(fn() {print(status(k), status(inner))})
resume(inner)
print(status(k), status(inner))
yield()
})
print(status(k))
resume(k)
print(status(k))
resume(k)
print(status(k))`, "new", "running", "busy running", "running done", "waiting", "done")
	checkSays(t, "let k = task(fn() {throw 1}); resume(k); print(status(k)); k = task(fn() {}); giveup(k); print(status(k)); k = task(fn() {yield()}); resume(k); giveup(k); print(status(k))", "done", "done", "done")
	// While it is being given up a task runs, and is busy when it waits for another.
	checkSays(t, "let k; k = task(fn() {defer (fn() {print(status(k)); resume(task(fn() {print(status(k))}))})(); yield()}); resume(k); giveup(k)", "running", "busy")
}

// P4: values go both ways.
func TestTaskValues(t *testing.T) {
	checkSays(t, `let k = task(fn(a, ...) {
print("first", a, ...)
print("then", yield(1, 2))
let b, c = yield()
print(b, c, (yield(3)))
return 7, 8
})
print(resume(k, "a", "b", "c"))
print(resume(k, "d", "e"))
print(resume(k, "f"))
print(resume(k))
print(status(k))`, "first a b c", "true 1 2", "then d e", "true", "true 3", "f nil nil", "true 7 8", "done")
	checkSays(t, "let k = task(fn() {}); print(resume(k)); k = task(fn() {return nil}); print(resume(k))", "true", "true nil")
	checkSays(t, "let k = task(fn() {for i = 1, 3 {yield(i)}}); for i = 1, 4 {print(resume(k))}", "true 1", "true 2", "true 3", "true")
	// yield in the midst of expressions, of handlers, of loops, of tries.
	checkSays(t, `let k = task(fn() {
let t = {yield(1), yield(2), [yield(3)] = yield(4)}
print(t[1], t[2], t.x)
print(yield(5) + yield(6))
let u = setkind({}, {.index = fn(t, k) {return yield(k)}, .add = yield, .each = fn() {return yield}})
print(u.seven, u + 8)
for v in u {print("v", v); break}
try {throw yield(9)} catch e {print("e", e)}
})
let say = {}
for i = 1, 11 {
let a, b = resume(k, i == 4 and "x" or i)
say[i] = b
}
print(say[1], say[2], say[3], say[4], say[5], say[6], say[7], say[8], say[9], say[10])`, "2 3 5", "13", "8 9", "v 10", "e 11", "1 2 3 4 5 6 seven table nil 9")
}

// P4: what resume and giveup throw, in each state.
func TestTaskErrors(t *testing.T) {
	for _, what := range []string{"resume", "giveup", "status"} {
		for _, arg := range []string{"", "nil", "1", "{}", "print", "none"} {
			checkCode(t, what+"("+arg+")", impl.ErrArgs)
		}
	}
	for _, what := range []string{"resume", "giveup"} {
		checkCode(t, "let k = task(none); resume(k); "+what+"(k)", impl.ErrTask)
		checkCode(t, "let k = task(none); giveup(k); "+what+"(k)", impl.ErrTask)
		checkSays(t, "let k; k = task(fn() {try {"+what+"(k)} catch e, t {print(e.code, t)}}); resume(k)", "10 fn:1")
		checkSays(t, "let k; k = task(fn() {resume(task(fn() {try {"+what+"(k)} catch e, t {print(e.code, t, status(k))}}))}); print(resume(k))", "10 fn:1 busy", "true")
		checkSays(t, "let k; k = task(fn() {defer (fn() {try {"+what+"(k)} catch e, t {print(e.code, t)}})(); yield()}); resume(k); print(giveup(k))", "10 fn:1 fn:1", "true")
	}
	// yield: not in the text, not in a fn of it.
	checkCode(t, "yield(1)", impl.ErrTask)
	checkCode(t, "(fn() {yield()})()", impl.ErrTask)
	checkSays(t, "let k = task(fn() {yield(1)}); resume(k); try {yield()} catch e {print(e.code, status(k))}", "10 waiting")
	for _, arg := range []string{"", "nil", "1", "{}", "print", "\"s\"", "task(none)"} {
		checkCode(t, "task("+arg+")", impl.ErrArgs)
	}
	checkCode(t, "task(none, 1, 2)", 0)
}

// P4: the errors that leave a task.
func TestTaskThrows(t *testing.T) {
	checkSays(t, "let k = task(fn() {\nlet a\na()\n}); let ok, e, t = resume(k); print(ok, e.code, e.line, t)", "false 6 3 fn:3")
	checkSays(t, "fn g() {yield(); throw {.code = 5}}\nlet k = task(fn() {\ng()\n})\nresume(k)\nlet ok, e, t = resume(k)\nprint(ok, e.code, t)", "false 5 g:1 fn:3")
	checkSays(t, "try {let k = task(fn() {throw 1}); print(resume(k)); throw 2} catch e {print(e)}", "false 1 fn:1", "2")
	checkSays(t, "let k = task(fn() {defer (fn() {throw 2})(); throw 1}); print(resume(k))", "false 2 fn:1 fn:1")
}

// P4: a task that is given up leaves all its blocks and calls; nothing of it is caught.
func TestGiveUp(t *testing.T) {
	checkSays(t, "let k = task(fn() {print(1)}); print(giveup(k), status(k))", "true done")
	checkRecs(t, "let k = task(fn() {}); giveup(k)")
	checkSays(t, `fn inner() {
defer print("inner")
try {
defer print("try")
for i = 1, 3 {defer print("loop", i); yield(i); print("no")}
} catch e {print("no", e)}
print("no")
}
let k = task(fn() {
defer print("outer")
try {inner()} catch e {print("no")}
})
print(resume(k))
print(giveup(k))
print(status(k))`, "true 1", "loop 1", "try", "inner", "outer", "true", "done")
	// Errors that leave its defers are dropped, and the last one is told.
	checkSays(t, `let k = task(fn() {
defer print("last")
defer (fn() {throw 1})()
{
defer (fn() {throw {.code = 2}})()
defer print("first")
yield()
}
})
resume(k)
let ok, e, t = giveup(k)
print(ok, e, t)`, "first", "last", "false 1 fn:3 fn:3")
	checkSays(t, "let k = task(fn() {defer (fn() {try {throw 1} catch e {print(\"caught\", e)}})(); yield()}); resume(k); print(giveup(k))", "caught 1", "true")
	checkSays(t, "let none; let k = task(fn() {defer none(); yield()}); resume(k); let a, b, c = giveup(k); print(a, b.code, c)", "false 6 fn:1")
	// It can't yield any more, not even in a fn that a defer calls.
	checkSays(t, "let k = task(fn() {defer (fn() {try {yield()} catch e {print(e.code)}; yield()})(); yield()}); resume(k); let a, b, c = giveup(k); print(a, b.code, c, status(k))", "10", "false 10 fn:1 fn:1 done")
	checkSays(t, "let k = task(fn() {defer yield(); yield()}); resume(k); let a, b, c = giveup(k); print(a, b.code, c)", "false 10 fn:1")
	// But it may resume others, and these yield.
	checkSays(t, "let k = task(fn() {defer (fn() {let j = task(fn() {yield(1); return 2}); print(resume(j)); print(resume(j))})(); yield()}); resume(k); print(giveup(k))", "true 1", "true 2", "true")
	// More arguments do nothing.
	checkSays(t, "let k = task(fn() {print(yield())}); resume(k); print(giveup(k, 1, 2))", "true")
}

// P4: an error, a return, a break or a next that is on its way in a task that waits in a defer is let go of when it is given up.
func TestGiveUpOnTheWay(t *testing.T) {
	for _, way := range []string{"throw 1", "return 1", "break", "next", "let done"} {
		text := fmt.Sprintf(`let k = task(fn() {
defer print("outer")
try {
for i = 1, 2 {
defer print("loop", i)
{
defer print("first")
defer (fn() {defer print("in"); yield("on the way"); print("no")})()
%s
}
print("no")
}
print("no")
} catch e {print("no")}
print("no")
})
print(resume(k))
print(giveup(k), status(k))`, way)
		checkSays(t, text, "true on the way", "in", "first", "loop 1", "outer", "true done")
	}
	// Where it is not given up, each goes on from there.
	for way, want := range map[string][]string{
		"throw 1": {"first", "loop 1", "caught 1", "end", "true 3"}, "return 1": {"first", "loop 1", "true 1"}, "break": {"first", "loop 1", "behind", "end", "true 3"},
		"let done": {"first", "go", "loop 1", "behind", "end", "true 3"},
	} {
		text := fmt.Sprintf(`let k = task(fn() {
try {
for i = 1, 1 {
defer print("loop", i)
{
defer print("first")
defer yield("on the way")
%s
}
print("go")
}
print("behind")
} catch e {print("caught", e)}
print("end")
return 3
})
print(resume(k))
print(resume(k))`, way)
		checkSays(t, text, append([]string{"true on the way"}, want...)...)
	}
	// An error that is thrown in a defer while the task is given up drops the one ahead of it.
	checkSays(t, "let k = task(fn() {defer (fn() {throw 3})(); defer (fn() {defer (fn() {throw 2})(); yield(); print(0)})(); throw 1}); resume(k); print(giveup(k))", "false 3 fn:1 fn:1")
}

// P4: the records of turns.
func TestTurnRecords(t *testing.T) {
	checkRecs(t, "let k = task(fn() {\nprint(1)\nyield()\nprint(2)\n})\nresume(k)\nresume(k)\n",
		"turn 1.0:0 resume", "call 1.1:1", "print 1.1:2 1", "turn 0.0:0 yield", "turn 1.0:0 resume", "print 1.1:4 2", "back 1.1:0", "turn 0.0:0 done")
	checkRecs(t, "let a = task(fn() {resume(task(fn() {yield()}))}); resume(a)",
		"turn 1.0:0 resume", "call 1.1:1", "turn 2.0:0 resume", "call 2.2:1", "turn 1.0:0 yield", "back 1.1:0", "turn 0.0:0 done")
	checkRecs(t, "let k = task(fn() {defer (fn() {throw 1})(); yield()}); resume(k); giveup(k)",
		"turn 1.0:0 resume", "call 1.1:1", "turn 0.0:0 yield", "turn 1.0:0 giveup", "call 1.2:1", "throw 1.2:1 1", "back 1.2:0 error", "back 1.1:0 gone", "turn 0.0:0 gone")
}

// P4: MaxTasks can be made, and no more, whatever has become of them.
func TestManyTasks(t *testing.T) {
	checkSays(t, `fn f() {yield()}
let all = {}
for i = 1, 100 {all[i] = task(f)}
try {task(f)} catch e {print(e.code)}
for i = 1, 50 {resume(all[i])}
for i = 1, 100 {giveup(all[i]); all[i] = nil}
collect()
try {task(f)} catch e {print(e.code)}
try {task(1)} catch e {print(e.code)}
print(#all)`, "10", "10", "12", "0")
	// A chain of tasks, each of which waits for the next.
	in := plenty()
	text := "fn f(n) {if n > 0 {let k = task(f); let ok, v = resume(k, n - 1); return v + 1}; return 0}\nreturn f(29)"
	checkShown(t, text, saysOf(ranText(t, text, in)), []string{"gives 29"})
	text = "let f; f = fn(n) {let k = task(f); let a, b = resume(k, n + 1); if a {return b}; return n}\nreturn f(1)"
	checkShown(t, text, saysOf(ranText(t, text, in)), []string{"gives 59"})
}

// P4: what waits when the text ends is never heard of again, and leaves no goroutine behind, however the run ends.
func TestNoGoroutineStays(t *testing.T) {
	prelude := "fn f(n) {defer print(\"never\"); try {if n > 0 {resume(task(f), n - 1)}; yield()} catch e {}; print(\"never\")}\n"
	texts := []string{
		"for i = 1, 20 {resume(task(f), 0)}",
		"for i = 1, 5 {resume(task(f), i)}; return 1",
		"resume(task(f), 5); throw 1",
		"resume(task(f), 3); while true {}",
		"let k = task(fn() {resume(task(f), 2); while true {}}); resume(k)",
		"let k = task(fn() {resume(task(fn() {resume(task(f), 2); while true {}}))}); resume(k)",
		"setkind({}, {.last = fn() {resume(task(fn() {resume(task(f), 1); while true {}}))}}); collect()",
	}
	before := runtime.NumGoroutine()
	for _, text := range texts {
		u := boundText(t, prelude+text)
		r := impl.Run(u, plenty())
		for _, rec := range r.Recs {
			if rec.Text == "never" {
				t.Errorf("%s: %+v", text, rec)
			}
		}
		for k := 0; k < len(r.Recs); k += 7 {
			if !impl.Look(u, plenty(), k).Ok {
				t.Errorf("%s: nothing at %d", text, k)
			}
		}
		ranText(t, prelude+text, plenty())
	}
	// They end ahead of the answer: at the moment of it hardly any is still about to go.
	u, left := boundText(t, "for i = 1, 90 {resume(task(fn() {yield()}))}"), 0
	for range 50 {
		impl.Run(u, plenty())
		left += max(0, runtime.NumGoroutine()-before)
	}
	if left > 50*45 {
		t.Errorf("%d of %d goroutines are still there", left, 50*90)
	}
	// One that has told its end may need a moment to be gone.
	for range 100 {
		if runtime.NumGoroutine() <= before {
			return
		}
		time.Sleep(10 * time.Millisecond)
	}
	t.Errorf("%d goroutines, %d before", runtime.NumGoroutine(), before)
}
