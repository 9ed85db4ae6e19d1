package tests

import (
	"fmt"
	"math"
	"slices"
	"strings"
	"testing"

	"loop.example/heddle/impl"
)

// noted: a text in whose statements n(x) prints x and gives it, and none, two and many give so many values.
func noted(text string) string {
	return "fn n(x, ...) {print(x); return x, ...}; fn none() {}; fn two() {return 1, 2}; fn many() {return 1, 2, 3}\n" + text
}

// P4: all is done from the left to the right.
func TestOrderOfEvaluation(t *testing.T) {
	for _, c := range []struct{ text, says string }{
		{"let a = n(1) + n(2) * n(3)", "1 2 3"},
		{"let a = n(1) < n(2)", "1 2"},
		{"let a = n(2) > n(1)", "2 1"},
		{"let a = n(2) >= n(1)", "2 1"},
		{"let a = n(1) == n(2)", "1 2"},
		{"let a = n(\"a\") .. n(\"b\") .. n(\"c\")", "a b c"},
		{"let a = {n(1), [n(2)] = n(3), .x = n(4), n(5)}", "1 2 3 4 5"},
		{"let a = n(none)(n(1), n(2))", "fn 1 2"},
		{"let a = n({})[n(1)]", "table 1"},
		{"let a, b = n(1), n(2), n(3)", "1 2 3"},
		{"let a, b, c = n(1)", "1"},
		{"let t = {}; t[n(1)], t[n(2)] = n(3), n(4), n(5)", "1 2 3 4 5"},
		{"let t = {}; n(t)[n(1)], n(t)[n(2)] = n(3)", "table 1 table 2 3"},
		{"return n(1), n(2)", "1 2"},
		{"for i = n(1), n(0), n(5) {}", "1 0 5"},
		{"for i in n({}) {n(1)}", "table"},
		{"try {throw n(1)} catch e {n(2)}", "1 2"},
		{"{defer n(n(1), n(2)); n(3)}", "1 2 3 1"},
		{"let a = n(false) and n(1)", "false"},
		{"let a = n(1) and n(2)", "1 2"},
		{"let a = n(nil) or n(2)", "nil 2"},
		{"let a = n(1) or n(2)", "1"},
		{"if n(false) {n(1)} elif n(true) {n(2)} else {n(3)}", "false true 2"},
		{"let i = 0; while n(i) < 1 {i = i + 1; n(7)}", "0 7 1"},
		{"let a = -n(1) + #n(\"s\")", "1 s"},
	} {
		text := noted(c.text)
		r := ranText(t, text, plenty())
		var says []string
		for _, rec := range r.Recs {
			if rec.Kind == impl.RecPrint {
				says = append(says, rec.Text)
			}
		}
		if got := strings.Join(says, " "); got != c.says || r.Code != 0 {
			t.Errorf("%s: code %d: %s, want %s", c.text, r.Code, got, c.says)
		}
	}
}

// P4: what an expression gives by itself.
func TestExpressions(t *testing.T) {
	checkSays(t, "print(nil, true, false, 7, 1.5, \"s\", print); print({}, fn() {}, task(fn() {}))", "nil true false 7 3p-1 s builtin", "table fn task")
	checkSays(t, "print(nil and 1, false and 1, 0 and 1, nil or 1, false or nil, 0 or 1, \"\" or 1)", "nil false 1 1 nil 0 ")
	checkSays(t, "print(not nil, not 0, -2, -1.5, ~5, #\"abc\", #{1, 2, [4] = 4})", "true false -2 -3p-1 -6 3 2")
	checkSays(t, "print(7 + 1, 7 - 1, 7 * 2, 7 / 2, 7 // 2, 7 % 2, 7 & 3, 7 | 8, 7 ~ 2, 1 << 3, 8 >> 1)", "8 6 14 7p-1 3 1 3 15 5 8 4")
	checkSays(t, "print(1 == 1.0, 1 ~= 2, 1 < 2, 2 <= 1, \"a\" > \"b\", 2 >= 2, 1 .. 2.5 .. \"x\")", "true true true false false true 15p-1x")
	checkSays(t, "let a, b = 1, 2; fn f() {a = a + 10; b = 7; return a}; print(a, b); print(f(), a, b)", "1 2", "11 11 7")
	checkSays(t, "let t = {10, 20, .x = 30}; print(t[1], t[2.0], t.x, t[\"x\"], t[3], t[nil], t[0.0 / 0.0], t.y)", "10 20 30 30 nil nil nil nil")
	checkSays(t, "print(0.0 / 0.0, 1 / 0, -1 / 0, 0 == -0.0, 0.0 / 0.0 == 0.0 / 0.0)", "nan inf -inf true false")
	checkSays(t, "let a = {}; let b = a; print(a == b, a == {}, a ~= {}, print == print, print == read)", "true false true true false")
	for _, c := range []struct {
		text string
		code int
	}{
		{"let a = nil + 1", impl.ErrType}, {"let a = 1 // 0", impl.ErrZero}, {"let a = 1 % 0", impl.ErrZero}, {"let a = 1 << -1", impl.ErrRange},
		{"let a = {} < 1", impl.ErrType}, {"let a = 1 >= nil", impl.ErrType}, {"let a = -nil", impl.ErrType}, {"let a = ~1.5", impl.ErrType}, {"let a = #1", impl.ErrType},
		{"let a = {} .. 1", impl.ErrType}, {"let a = nil .. 1", impl.ErrType}, {"let s = \"0123456789\"; for i = 1, 9 {s = s .. s}", impl.ErrLong},
		{"let v; let a = v[1]", impl.ErrIndex}, {"let a = (1).x", impl.ErrIndex}, {"let a = (\"s\")[1]", impl.ErrIndex}, {"let a = print[1]", impl.ErrIndex},
		{"let v; v()", impl.ErrCall}, {"(1)()", impl.ErrCall}, {"({})()", impl.ErrCall}, {"(\"s\")(1)", impl.ErrCall},
		{"let a; a.x = 1", impl.ErrIndex}, {"let a = {}; a[nil] = 1", impl.ErrKey}, {"let a = {}; a[0.0 / 0.0] = nil", impl.ErrKey},
	} {
		checkCode(t, c.text, c.code)
	}
}

// P4: a call and ... give all their values in the last place of a list, one elsewhere.
func TestLists(t *testing.T) {
	for _, c := range []struct{ text, says string }{
		{"print(many())", "1 2 3"},
		{"print(many(), many())", "1 1 2 3"},
		{"print((many()))", "1"},
		{"print((none()), none())", "nil"},
		{"print(none(), 1)", "nil 1"},
		{"print(none(), (none()))", "nil nil"},
		{"print(1, none())", "1"},
		{"print(many() + many(), -many(), not none(), many() == many())", "2 -1 true true"},
		{"let a, b, c, d = many(); print(a, b, c, d)", "1 2 3 nil"},
		{"let a, b, c, d = many(), many(); print(a, b, c, d)", "1 1 2 3"},
		{"let a = many(), 5; print(a)", "1"},
		{"let a, b = (many()); print(a, b)", "1 nil"},
		{"let a, b = none(); print(a, b)", "nil nil"},
		{"let a, b; print(a, b)", "nil nil"},
		{"let a = 7; let b; a, b = many(); print(a, b)", "1 2"},
		{"let a, b, c = 7, 8, 9; a, b, c = 1; print(a, b, c)", "1 nil nil"},
		{"let a = 7; a = none(); print(a)", "nil"},
		{"let a, b = 1, 2; a, b = b, a, none(); print(a, b)", "2 1"},
		{"let t = {many()}; print(#t, t[3])", "3 3"},
		{"let t = {many(), many()}; print(#t, t[4])", "4 3"},
		{"let t = {(many())}; print(#t)", "1"},
		{"let t = {many(), 9}; print(#t, t[2])", "2 9"},
		{"let t = {[5] = many()}; print(t[5], t[6])", "1 nil"},
		{"let t = {.x = many()}; print(t.x)", "1"},
		{"let t = {1, none()}; print(#t)", "1"},
		{"let t = {none(), none()}; print(#t, t[1])", "0 nil"},
		{"print((fn(...) {return ...})(many()))", "1 2 3"},
		{"print((fn(...) {return ..., 7})(many()))", "1 7"},
		{"print((fn(...) {return (...)})(many()))", "1"},
		{"print((fn(a, ...) {return ...})(many()))", "2 3"},
		{"print((fn(a, b, c, d, ...) {return d, ...})(many()))", "nil"},
		{"print((fn(a) {return a})(many()))", "1"},
		{"print((fn(...) {let t = {...}; return #t, ...})(many()))", "3 1 2 3"},
		{"print((fn(...) {return many()})())", "1 2 3"},
		{"print(({many})[many()](5))", "1 2 3"},
		{"print(many() and none(), none() or many())", "nil 1"},
		{"if none() {print(1)} elif many() {print(2)}", "2"},
		{"let n = 0; while two() and n < 1 {n = n + 1}; print(n)", "1"},
		{"for i = many(), many(), many() {print(i)}", "1"},
		{"for a, b, c, d in (fn() {let i = 0; return fn() {i = i + 1; if i < 2 {return many()}}})() {print(a, b, c, d)}", "1 2 3 nil"},
		{"try {throw many()} catch e {print(e)}", "1"},
		{"try {throw none()} catch e {print(e)}", "nil"},
		{"{defer print(many(), many())}", "1 1 2 3"},
	} {
		text := noted(c.text)
		checkShown(t, c.text, saysOf(ranText(t, text, plenty())), []string{c.says})
	}
}

// listOf: so many expressions.
func listOf(count int) string { return strings.Repeat("1, ", count-1) + "1" }

// P4: a list of MaxList values is fine, one more is ErrLong, wherever a list is made; not where a NTable or one variable takes it.
func TestListLimits(t *testing.T) {
	prelude := "fn r(...) {return 1, 2, 3, ...}\nfn long() {return " + listOf(150) + ", (fn() {return " + listOf(97) + "})()}\n" // 247
	for _, c := range []struct {
		text string
		code int
	}{
		{"type(r(long()))", 0},                           // 250 in a call and in a return
		{"type(1, r(long()))", impl.ErrLong},             // 251 arguments
		{"type((r(long())), long())", 0},                 // only the last one counts
		{"(fn() {return 1, r(long())})()", impl.ErrLong}, // 251 in a return
		{"(fn() {return r(long())})()", 0},
		{"let a, b = 1, r(long())", impl.ErrLong},
		{"let a, b = r(long())", 0},
		{"let a = 1, r(long())", impl.ErrLong},
		{"let a, b; a, b = 1, r(long())", impl.ErrLong},
		{"let a, b; a, b = r(long())", 0},
		{"{defer type(1, r(long()))}", impl.ErrLong},
		{"{defer type(r(long()))}", 0},
		{"let t = {1, r(long())}; if #t ~= 251 {throw 1}", 0},
		{"r(1, long())", impl.ErrLong}, // 248 arguments, 251 values
		{"r(long())", 0},
	} {
		text := prelude + "try {\n" + c.text + "\nreturn 0} catch e {return e.code}"
		checkShown(t, c.text, ranText(t, text, plenty()).Vals, []string{fmt.Sprint(c.code)})
	}
	// What a resume gives and a table that is called can be longer than any list that is made of it.
	text := prelude + `let k = task(fn() {yield(r(long()))})
let t = {resume(k)}
print(#t)
k = task(fn() {yield(r(long()))})
let a, b = (resume(k))
print(a, b)
k = task(fn() {yield(r(long()))})
try {a, b = resume(k)} catch e {print(e.code)}
k = task(fn() {yield(r(long()))})
let c = resume(k)
print(c)
k = task(fn() {yield(r(long()))})
c = resume(k)
k = task(fn() {yield(r(long()))})
try {print((fn() {return resume(k)})())} catch e {print(e.code)}
let called = setkind({}, {.call = fn(...) {let all = {...}; print(#all); return type(...)}})
try {called(r(long()))} catch e {print(e.code)}
called(long())`
	checkSays(t, text, "251", "true nil", "4", "true", "4", "251", "4", "248")
}

// P4: tables: keys, nil as a value, keys twice, MaxPairs, numbers that wrap.
func TestNewTables(t *testing.T) {
	checkSays(t, "let t = {1, 2, [1] = 5, [2.0] = 6, [3] = 7}; print(t[1], t[2], t[3], #t)", "5 6 7 3")
	checkSays(t, "let t = {.a = 1, .b = 2, .a = 3}; for k, v in t {print(k, v)}", "a 3", "b 2")
	checkSays(t, "let t = {.a = 1, .b = 2, .a = nil, .a = 4}; for k, v in t {print(k, v)}", "b 2", "a 4")
	checkSays(t, "let t = {nil, 2, nil}; print(#t, t[2]); for k, v in t {print(k, v)}", "0 2", "2 2")
	checkSays(t, "let t = {1, [1] = nil}; print(#t)", "0")
	checkSays(t, "let t = {[true] = 1, [1.5] = 2, [print] = 3, [\"\"] = 4}; print(t[true], t[1.5], t[print], t[\"\"])", "1 2 3 4")
	for _, key := range []string{"nil", "0.0 / 0.0", "none()"} {
		checkCode(t, "let t = {["+key+"] = 1}", impl.ErrKey)
		checkCode(t, "let t = {["+key+"] = nil}", impl.ErrKey)
	}
	// The key and the value are worked out ahead of what the key turns out to be; the table is there already.
	checkSays(t, "try {let t = {[nil] = print(1), print(2)}} catch e {print(e.code)}", "1", "5")
	in := plenty()
	in.Cells = 0
	text := "try {let t = {[print(1)] = print(2)}} catch e {print(e.code)}"
	checkShown(t, text, saysOf(ranText(t, text, in)), []string{"9"})
}

// P4: the last key of a NTable with Op 1 may be any int; those that follow wrap, and MaxPairs holds for them too.
func TestOpenTables(t *testing.T) {
	u := boundText(t, "let t = {type(1), (fn() {return 1, nil, 3, 4})()}\nfor k, v in t {print(k, v)}")
	table := &u.Fns[0]
	last := slices.IndexFunc(table.Nodes, func(n impl.Node) bool { return n.Kind == impl.NTable })
	key := table.Nodes[last].Kids[len(table.Nodes[last].Kids)-2]
	for from, want := range map[int64][]string{
		2:                 {"1 int", "2 1", "4 3", "5 4"},
		-1:                {"1 3", "-1 1", "2 4"}, // 1, nil, 3 and 4 come to -1, 0, 1 and 2
		1:                 {"1 1", "3 3", "4 4"},
		math.MaxInt64 - 1: {"1 int", fmt.Sprint(int64(math.MaxInt64)-1, " 1"), fmt.Sprint(math.MinInt64, " 3"), fmt.Sprint(math.MinInt64+1, " 4")},
		math.MaxInt64:     {"1 int", fmt.Sprint(math.MaxInt64, " 1"), fmt.Sprint(math.MinInt64+1, " 3"), fmt.Sprint(math.MinInt64+2, " 4")},
	} {
		table.Nodes[key].Num = from
		checkShown(t, fmt.Sprint(from), saysOf(ranUnit(t, fmt.Sprint(from), u, plenty())), want)
	}
}

// P4: a table has at most MaxPairs pairs, by whatever way they come.
func TestFullTables(t *testing.T) {
	full := "let t = {}; for i = 1, 500 {t[i] = i}\n"
	checkSays(t, full+`t[500] = 1
t[501] = nil
try {t[501] = 1} catch e {print(e.code)}
try {rawset(t, "x", 1)} catch e {print(e.code)}
rawset(t, "x", nil)
t[7] = nil
t.x = 1
try {t[7] = 7} catch e {print(e.code)}
print(t.x, t[7], t[500])`, "4", "4", "4", "1 nil 1")
}
