package tests

import (
	"testing"

	"loop.example/heddle/impl"
)

// P4: ifs and whiles.
func TestIfAndWhile(t *testing.T) {
	checkSays(t, "for v in {1, 0, \"\", {}, true, print} {}; for k, v in {0, 0.0, \"\", true} {if v {print(k)} else {print(\"no\")}}", "1", "2", "3", "4")
	checkSays(t, "if nil {print(1)} else {print(2)}; if false {print(3)}; if false {print(4)} elif nil {print(5)}; print(6)", "2", "6")
	checkRecs(t, "if false {\n} elif false {\n} elif true {print(1)}", "print 0.0:3 1")
	r := ranText(t, "if false {\n} elif false {\n} elif true {\nprint(1)}", plenty())
	checkShown(t, "elif", []string{recTold(r.Recs[0]), recTold(r.Recs[1]), recTold(r.Recs[2]), recTold(r.Recs[3])}, []string{"line 0.0:1", "line 0.0:2", "line 0.0:3", "line 0.0:4"})
	checkSays(t, "let i = 0; while i < 10 {i = i + 1; if i == 2 {next}; if i == 5 {break}; print(i)}; print(\"end\", i)", "1", "3", "4", "end 5")
	// The condition belongs to the while's own line, in every turn.
	checkRecs(t, "let i = 0\nwhile print(i) or i < 1 {\ni = i + 1\n}", "print 0.0:2 0", "print 0.0:2 1")
}

// P4: numbers from one to another.
func TestForNumbers(t *testing.T) {
	for _, c := range []struct{ head, says string }{
		{"1, 3", "1 2 3"}, {"1, 1", "1"}, {"1, 0", ""}, {"3, 1, -1", "3 2 1"}, {"3, 1, -2", "3 1"}, {"1, 6, 2", "1 3 5"}, {"1, 3, -1", ""},
		{"9223372036854775806, 9223372036854775807", "9223372036854775806 9223372036854775807"},
		{"9223372036854775800, 9223372036854775807, 5", "9223372036854775800 9223372036854775805"},
		{"0x8000000000000001, 0x8000000000000000, -1", "-9223372036854775807 -9223372036854775808"},
		{"0x8000000000000004, 0x8000000000000000, -3", "-9223372036854775804 -9223372036854775807"},
		{"0x8000000000000000, 9223372036854775807, 9223372036854775807", "-9223372036854775808 -1 9223372036854775806"},
		{"9223372036854775807, 0x8000000000000000, 0x8000000000000000", "9223372036854775807 -1"},
		{"5, 5, 0x8000000000000000", "5"},
		{"1.0, 3", "1p0 1p1 3p0"}, {"1, 3.0", "1p0 1p1 3p0"}, {"1, 2, 0.5", "1p0 3p-1 1p1"}, {"1, 0, -0.5", "1p0 1p-1 0p0"}, {"0.5, 1", "1p-1"},
		{"1, 0.0 / 0.0, 1", ""}, {"0.0 / 0.0, 1", ""}, {"1e999, 5, 1", ""}, {"5, 1e999, 1e999", "5p0 inf inf inf inf"}, {"-1e999, 1e999, 1e999", "-inf"},
		{"1, -1e999, -1e999", "1p0 -inf -inf -inf -inf"}, {"1e999, 1e999, 1", "inf inf inf inf inf"}, {"9007199254740993, 9007199254740992.0", "1p53 1p53 1p53 1p53 1p53"},
		{"1e16, 1e16 + 4, 1.0", "152587890625p16 152587890625p16 152587890625p16 152587890625p16 152587890625p16"},
		{"0.1, 0.35, 0.1", "3602879701896397p-55 3602879701896397p-54 1351079888211149p-52"},
	} {
		text := "let n, all = 0, \"\"\nfor i = " + c.head + " {\nif n > 0 {all = all .. \" \"}\nall = all .. i\nn = n + 1\nif n == 5 {break}\n}\nreturn all"
		r := ranText(t, text, plenty())
		if len(r.Vals) != 1 || r.Vals[0] != c.says {
			t.Errorf("%s: %v, want %s", c.head, r.Vals, c.says)
		}
	}
	for _, c := range []struct {
		head string
		code int
	}{
		{"1, 2, 0", impl.ErrStep}, {"2, 1, 0", impl.ErrStep}, {"1.0, 2, 0", impl.ErrStep}, {"1, 2, 0.0", impl.ErrStep}, {"1, 2, -0.0", impl.ErrStep}, {"1, 2, 0.0 / 0.0", impl.ErrStep},
		{"nil, 2", impl.ErrType}, {"1, nil", impl.ErrType}, {"1, 2, nil", impl.ErrType}, {"\"1\", 2", impl.ErrType}, {"1, {}, 0", impl.ErrType}, {"true, 1, 0.0 / 0.0", impl.ErrType}, {"1, 2, none()", impl.ErrType},
		{"1, 2, two()", 0}, {"many(), two(), many()", 0},
	} {
		checkCode(t, "for i = "+c.head+" {}", c.code)
	}
	// All three are worked out ahead of any error, and once only.
	checkSays(t, "try {for i = print(1), print(2), print(3) {}} catch e {print(e.code)}", "1", "2", "3", "1")
	// What is written into the variable does not turn the loop.
	checkSays(t, "for i = 1, 3 {print(i); i = 10}", "1", "2", "3")
}

// P4: through the pairs of a table, as it is at each turn.
func TestEachTable(t *testing.T) {
	checkSays(t, "for k, v, x, y in {5, .a = 6} {print(k, v, x, y)}", "1 5 nil nil", "a 6 nil nil")
	checkSays(t, "for k in {7, 8} {print(k)}; for k in {} {print(9)}", "1", "2")
	checkSays(t, "let t = {1, 2, 3}; for k, v in t {print(k, v); t[k] = nil}; print(#t)", "1 1", "2 2", "3 3", "0")
	checkSays(t, "let t = {1, 2, 3}; for k, v in t {print(k, v); t[2] = nil}", "1 1", "3 3")
	checkSays(t, "let t = {1, 2}; for k, v in t {print(k, v); if k < 5 {t[k + 2] = k}}", "1 1", "2 2", "3 1", "4 2", "5 3", "6 4")
	// What goes and comes back comes again, at the end.
	checkSays(t, "let t, n = {1, 2}, 0; for k, v in t {n = n + 1; print(k, v); t[1] = nil; if n < 3 {t[1] = n}}", "1 1", "2 2", "1 2")
	checkSays(t, "let t = {1, 2, 3}; for k, v in t {t[3] = 9; print(v)}", "1", "2", "9")
	checkSays(t, "let t = {1, 2, 3}; for k, v in t {t = {}; print(v)}", "1", "2", "3")
	checkSays(t, "for k, v in {1, 2, 3, 4} {if v == 2 {next}; if v == 4 {break}; print(v)}", "1", "3")
}

// P4: through a fn or a builtin, and what is none of these.
func TestEachCalled(t *testing.T) {
	checkSays(t, "let i = 0; for a, b in fn(...) {i = i + 1; print(\"turn\", ...); if i < 3 {return i, i * 2, 7}} {print(a, b)}", "turn", "1 2", "turn", "2 4", "turn")
	checkSays(t, "for a in fn() {return false} {print(a); break}", "false")
	checkSays(t, "for a, b in fn() {return nil, 1} {print(a)}; for a in fn() {} {print(a)}; print(0)", "0")
	in := plenty()
	in.Lines = []string{"x", "y"}
	checkShown(t, "lines", saysOf(ranText(t, "for line in read {print(line)}; print(read())", in)), []string{"x", "y", "nil"})
	for _, over := range []string{"nil", "1", "\"s\"", "true", "task(none)", "setkind({}, {.each = none})", "setkind({}, {.each = fn() {return {}}})",
		"setkind({}, {.each = fn() {return setkind({}, {.each = print, .call = none})}})"} {
		checkCode(t, "for a in "+over+" {}", impl.ErrType)
	}
	checkCode(t, "for a in setkind({}, {.each = 5}) {}", impl.ErrCall)
	// A table that can be called is gone through; one that each gives must be a fn.
	checkSays(t, "for k, v in setkind({7}, {.call = print}) {print(k, v)}", "1 7")
	checkSays(t, "let t = {7}; setkind(t, {.each = fn(x, ...) {print(x == t, ...); return fn() {t[1] = t[1] - 1; if t[1] > 4 {return t[1]}}, 9}}); for v in t {print(v)}", "true", "6", "5")
	in.Lines = []string{"z"}
	text := "for v in setkind({}, {.each = fn() {return read}}) {print(v)}"
	checkShown(t, text, saysOf(ranText(t, text, in)), []string{"z"})
	// The line of the loop is at hand at each of its calls.
	checkSays(t, "let i = 0\nfor x in fn() {i = i + 1; if i < 3 {return i}\nthrow 7} {\nprint(i)\n}", "1", "2", "7 at fn:3 main:2")
}

// P4: the variables of a turn are its own.
func TestVariablesAnew(t *testing.T) {
	checkSays(t, `let fs = {}
for i = 1, 3 {fs[i] = fn() {i = i + 10; return i}}
print(fs[1](), fs[1](), fs[2](), fs[3]())
for k, v in {"a", "b"} {let w; fs[k] = fn() {w = (w or v) .. k; return w}}
print(fs[1](), fs[1](), fs[2]())
let n = 0
while n < 2 {n = n + 1; let m = n; fs[n] = fn() {m = m + 1; return m, n}}
print(fs[1]()); print(fs[1]()); print(fs[2]())
for i = 1, 2 {try {throw i} catch e {fs[i] = fn() {e = e + 1; return e}}}
print(fs[1](), fs[1](), fs[2]())
let x = 1
let f = fn() {return x}
let x = 2
print(f(), x)`, "11 21 12 13", "a1 a11 b2", "2 2", "3 2", "3 2", "2 3 3", "1 2")
	checkSays(t, "for i = 1, 2 {let a; print(a); a = i}", "nil", "nil")
	checkSays(t, "fn f(a, b) {let c; c, b = b, 1; return fn() {a = a + 1; return a, b, c}}; let g, h = f(1, 2), f(5); print(g()); print(g()); print(h()); print(g())",
		"2 1 2", "3 1 2", "6 1 nil", "4 1 2")
	// A fn deep inside shares the variable with the one around it.
	checkSays(t, "let a = 1; let f = fn() {return fn() {a = a + 1; return a}}; print(f()(), f()(), a); a = 7; print(f()())", "2 3 3", "8")
	checkSays(t, "fn fact(n) {if n < 2 {return 1}; return n * fact(n - 1)}; print(fact(10))", "3628800")
}

// P4: break, next and return leave loops, blocks and tries.
func TestLeavingLoops(t *testing.T) {
	checkSays(t, "for i = 1, 3 {for j = 1, 3 {if j == 2 {break}; print(i, j)}; if i == 2 {break}}", "1 1", "2 1")
	checkSays(t, "for i = 1, 2 {try {if i == 1 {next}; print(i)} catch e {}; print(\"behind\", i)}", "2", "behind 2")
	checkSays(t, "for i = 1, 3 {try {throw i} catch e {if e == 1 {next}; break}; print(i)}; print(\"end\")", "end")
	checkSays(t, "fn f() {for i = 1, 3 {while true {try {{return i, 7}} catch e {}}}}; print(f())", "1 7")
	checkSays(t, "fn f() {for i in {1} {try {throw 1} catch e {return e, 2}}; return 3}; print(f())", "1 2")
	checkSays(t, "for i = 1, 3 {{defer print(\"d\", i); if i == 2 {next}; {defer print(\"e\"); if i == 3 {break}; print(i)}}; print(\"behind\", i)}",
		"1", "e", "d 1", "behind 1", "d 2", "e", "d 3")
	checkSays(t, "for i = 1, 2 {defer print(\"turn\", i); try {defer print(\"try\", i); next} catch e {print(0)}}", "try 1", "turn 1", "try 2", "turn 2")
	checkSays(t, "fn f() {defer print(3); for i = 1, 2 {defer print(2); {defer print(1); return print(0) or 5}}}; print(f())", "0", "1", "2", "3", "5")
}
