package tests

import "testing"

// lasts: a text with k, a kind whose last words are told by l, and make(n), which makes a table of that kind with the name n and drops it.
const lasts = `let k = {}
let l = {}
k.last = fn(t) {l[1](t)}
l[1] = fn(t) {print("last", t.name)}
fn make(n) {return setkind({.name = n}, k)}
`

// P4: tables that are not reached and want it are told their last words, in the order of making, and once.
func TestLastWords(t *testing.T) {
	checkSays(t, lasts+"make(1); let keep = make(2); make(3); make(4); collect(); print(\"again\"); collect(); keep = nil; collect()", "last 1", "last 3", "last 4", "again", "last 2")
	// The order is that of the tables, not of their kinds.
	checkSays(t, lasts+"let a, b = {.name = 1}, {.name = 2}; setkind(b, k); setkind(a, k); a, b = nil, nil; collect()", "last 1", "last 2")
	// cells takes nothing away and tells nobody.
	checkSays(t, lasts+"make(1); cells(); print(0); collect()", "0", "last 1")
	// What is never collected is never told.
	checkSays(t, lasts+"make(1); print(0)", "0")
	checkRecs(t, "fn f(t) {\nprint(1)\n}\nsetkind({}, {.last = f})\ncollect()", "last 0.0:0", "call 0.1:1 f", "print 0.1:2 1", "back 0.1:0")
	// It is the table that is given, and nothing else; what it gives is dropped.
	checkSays(t, "let x; {let t = {5}; setkind(t, {.last = fn(...) {let all = {...}; print(#all, all[1][1]); return 1, 2}})}; print(collect())", "1 5", "0")
}

// P4: whether a table wants a last word is asked when its kind is set; which fn tells it, when it is due.
func TestLastWordsWanted(t *testing.T) {
	checkSays(t, "let k = {}; setkind({}, k); k.last = fn() {print(1)}; collect(); print(0)", "0")
	checkSays(t, "let k = {.last = print}; setkind({}, k); k.last = fn() {print(1)}; collect(); print(0)", "0")
	checkSays(t, "let k = {.last = 5}; setkind({}, k); collect(); print(0)", "0")
	checkSays(t, "let k = {.last = fn() {print(1)}}; setkind({}, k); k.last = fn() {print(2)}; collect()", "2")
	for _, last := range []string{"nil", "print", "5", "{}", "setkind({}, {.call = print})"} {
		checkSays(t, "let k = {.last = fn() {print(1)}}; setkind({}, k); k.last = "+last+"; collect(); k.last = fn() {print(2)}; collect(); print(0)", "0")
	}
	checkSays(t, "let k = {.last = fn() {print(1)}}; let t = setkind({}, k); setkind(t, nil); t = nil; collect(); print(0)", "0")
	checkSays(t, "let k = {.last = fn() {print(1)}}; let t = setkind({}, k); setkind(t, {}); t = nil; collect(); print(0)", "0")
	checkSays(t, "let k = {.last = fn() {print(1)}}; let t = setkind({}, k); setkind(t, {.last = fn() {print(2)}}); t = nil; collect(); print(0)", "2", "0")
	checkSays(t, "let k = setkind({}, {.index = {.last = fn() {print(1)}}}); setkind({}, k); collect(); print(0)", "0")
}

// P4: a last word may make its table reachable again; it is not told again, unless the kind is set anew.
func TestLastWordsThatBringBack(t *testing.T) {
	checkSays(t, lasts+"let back; l[1] = fn(t) {print(\"last\", t.name); back = t}; make(1); collect(); print(back.name); back = nil; collect(); print(\"end\")", "last 1", "1", "end")
	checkSays(t, lasts+"let back; l[1] = fn(t) {print(\"last\", t.name); back = t}; make(1); collect(); setkind(back, k); back = nil; collect(); back = nil; collect()", "last 1", "last 1")
	// Set anew by the last word itself: it is told in the next round, again and again.
	checkSays(t, lasts+"let n = 0; l[1] = fn(t) {n = n + 1; print(\"last\", n); if n < 3 {setkind(t, k)}}; make(1); collect(); print(\"end\")", "last 1", "last 2", "last 3", "end")
	in := plenty()
	in.Ticks = 100
	text := lasts + "l[1] = fn(t) {setkind(t, k)}; make(1); collect()"
	if r := ranText(t, text, in); r.Code != 2 {
		t.Errorf("%+v", withoutRecs(r))
	}
	// What is dropped in a last word is told in a round of its own.
	checkSays(t, lasts+"l[1] = fn(t) {print(\"last\", t.name); if t.name < 3 {make(t.name + 1)}}; make(1); make(2); print(collect() > 0)", "last 1", "last 2", "last 2", "last 3", "last 3", "true")
}

// P4: all that are told in one round stay reached until the last of them has spoken; then what only they had may go.
func TestLastWordsOfOneRound(t *testing.T) {
	checkSays(t, lasts+"l[1] = fn(t) {print(\"last\", t.name, t.other and t.other.name)}; {let a, b = make(1), make(2); a.other, b.other = b, a}; collect(); collect()", "last 1 2", "last 2 1")
	checkSays(t, "let w = setkind({}, {.weak = \"v\"})\nlet k = {.last = fn(t) {collect(); print(type(w[1]), type(w[2]))}}\nw[1], w[2] = setkind({}, k), setkind({}, k)\nprint(1)\ncollect()\n",
		"1", "nil nil", "nil nil")
	// One that is only held by another one that wants a last word is told in the same round.
	checkSays(t, lasts+"{let a = make(1); let b = make(2); b.a = a}; collect(); print(\"end\"); collect()", "last 1", "last 2", "end")
	// A fn that tells a last word and what it closes over stay as long.
	checkSays(t, "{let own = {7}; let kk = {}; kk.last = fn(t) {kk.last = nil; print(own[1], collect()); print(own[1])}; setkind({}, kk); setkind({}, kk)}; print(collect())", "7 8", "7", "7 8", "7", "0")
}

// P4: errors that leave a last word are caught and dropped.
func TestLastWordsThatThrow(t *testing.T) {
	checkRecs(t, "fn f(t) {\nthrow 5\n}\nlet k = {.last = f}\nsetkind({}, k)\nsetkind({}, k)\ntry {\nprint(collect())\n} catch e {}",
		"last 0.0:0", "call 0.1:1 f", "throw 0.1:2 5", "back 0.1:0 error", "catch 0.0:0 5",
		"last 0.0:0", "call 0.1:1 f", "throw 0.1:2 5", "back 0.1:0 error", "catch 0.0:0 5", "print 0.0:8 3")
	// The trace goes down to the text; the line of the collect is at hand.
	checkSays(t, "let tr\nlet k = {.last = fn(t) {\ntry {throw 1} catch e, x {tr = x}\nthrow 2\n}}\nfn g() {\ncollect()\n}\nsetkind({}, k)\ng()\nprint(tr)", "fn:3 g:7 main:10")
	// ErrDepth where it cannot be called.
	in := plenty()
	in.Depth = 1
	text := "setkind({}, {.last = fn() {}})\nprint(collect())"
	checkShown(t, text, recsOf(ranText(t, text, in)), []string{"last 0.0:0", "throw 0.0:2 error 8", "catch 0.0:0 error 8", "print 0.0:2 0"})
	in.Depth = 2
	text = "let k = task(fn() {\nsetkind({}, {.last = fn() {}})\nprint(collect())\n})\nresume(k)"
	checkShown(t, text, recsOf(ranText(t, text, in)), []string{"turn 1.0:0 resume", "call 1.1:1", "last 1.0:0", "throw 1.1:3 error 8", "catch 1.0:0 error 8", "print 1.1:3 2", "back 1.1:0", "turn 0.0:0 done"})
	// Its defers are run, and the ticks run out in the midst of it.
	checkSays(t, "setkind({}, {.last = fn() {defer print(1); throw 2}}); collect(); print(3)", "1", "3")
}

// P4: collect within a last word, and what it counts.
func TestCollectWithinLastWords(t *testing.T) {
	checkSays(t, lasts+"l[1] = fn(t) {print(\"last\", t.name); if t.name == 1 {make(3); print(collect()); print(\"in\")}}; make(1); make(2); print(collect())", "last 1", "last 3", "14", "in", "last 2", "10")
	// In a nested one the tables that are due in the outer one are reached, those told before it too.
	checkSays(t, lasts+"let w = setkind({}, {.weak = \"v\"}); l[1] = fn(t) {collect(); print(type(w[1]), type(w[2]), type(w[3]))}\n{w[1], w[2], w[3] = make(1), make(2), make(3); w[3] = nil}\ncollect()",
		"nil nil nil", "nil nil nil", "nil nil nil")
	checkSays(t, lasts+"let n = 0; l[1] = fn(t) {n = n + 1; let before = cells(); collect(); print(cells() == before, n)}; make(1); make(2); collect()", "true 1", "true 2")
	// What lives behind it is what the collect around it counts in the end.
	in := plenty()
	in.Cells = 20
	text := "let k = {.last = fn(t) {collect()}}; setkind({1, 2, 3}, k); print(collect()); for i = 1, 17 {let a = {}}; try {let a = {}} catch e {print(e.code)}"
	checkShown(t, text, saysOf(ranText(t, text, in)), []string{"3", "9"})
}

// P4: yield can't be used while a last word is spoken that was begun in this task; in another task it can.
func TestYieldInLastWords(t *testing.T) {
	checkSays(t, "let k = task(fn() {setkind({}, {.last = fn() {try {yield(1)} catch e {print(e.code)}; yield(2)}}); collect(); print(yield(3))}); print(resume(k)); resume(k, 4)", "10", "true 3", "4")
	checkSays(t, "let j = task(fn() {print(yield(1)); print(yield(2))}); setkind({}, {.last = fn() {print(resume(j)); print(resume(j, 7))}}); collect(); resume(j, 8)", "true 1", "7", "true 2", "8")
	checkSays(t, "let j = task(fn() {yield(1)}); let k = task(fn() {setkind({}, {.last = fn() {print(resume(j)); try {yield(5)} catch e {print(e.code)}}}); collect(); yield(6)}); print(resume(k)); print(giveup(j), giveup(k))", "true 1", "10", "true 6", "true true")
	// A task that is resumed in a last word collects, and speaks, by itself; it can't yield meanwhile, and can again behind that.
	checkSays(t, `let k = {}
k.last = fn(t) {
print("last", t.n)
if t.n == 1 {
let j = task(fn() {setkind({.n = 2}, k); collect(); print(yield("out")); return 9})
print(resume(j))
print(resume(j, "back"))
} else {
try {yield()} catch e {print(e.code)}
}
}
setkind({.n = 1}, k)
collect()`, "last 1", "last 2", "10", "true out", "back", "true 9")
	// In a defer of a task that is given up.
	checkSays(t, "let k = task(fn() {defer (fn() {setkind({}, {.last = fn() {yield()}}); print(collect() > 0)})(); yield()}); resume(k); print(giveup(k))", "true", "true")
}

// P4: a collect counts what it says, with everything there at once.
func TestCollectGives(t *testing.T) {
	text := `let w = setkind({}, {.weak = "k", .last = fn(t) {print("bye", t.n)}})
w.n = 1
w[{}] = {1, 2}
let a = fn() {return w}
let k = task(fn(x) {yield(); return x, a})
resume(k, {5})
print(cells())
print(collect())
print(collect(), cells())
w = nil
print(collect())
a = nil
print(collect())
k = nil
print(collect())`
	// w 1 + 2, its kind 3, its fn 1; a 2; k 1, its fn 2, x 2: 14; the pair goes. a keeps the variable, which holds nothing then.
	checkSays(t, text, "14", "13", "13 13", "bye 1", "7", "5", "0")
}
