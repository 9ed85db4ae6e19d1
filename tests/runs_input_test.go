package tests

import (
	"fmt"
	"slices"
	"strings"
	"testing"

	"loop.example/heddle/impl"
)

// P4: which inputs are valid, at both ends of each allowance and beyond.
func TestInputs(t *testing.T) {
	texts := func(count, length int) []string { return slices.Repeat([]string{strings.Repeat("x", length)}, count) }
	for _, c := range []struct {
		in impl.Input
		ok bool
	}{
		{impl.Input{}, false},
		{impl.Input{Depth: 1}, true},
		{impl.Input{Ticks: 5000, Depth: 60, Cells: 20000}, true},
		{impl.Input{Ticks: 5001, Depth: 60, Cells: 20000}, false},
		{impl.Input{Ticks: 5000, Depth: 61, Cells: 20000}, false},
		{impl.Input{Ticks: 5000, Depth: 60, Cells: 20001}, false},
		{impl.Input{Ticks: -1, Depth: 1}, false},
		{impl.Input{Depth: 0, Ticks: 1, Cells: 1}, false},
		{impl.Input{Depth: -1}, false},
		{impl.Input{Depth: 1, Cells: -1}, false},
		{impl.Input{Depth: 1, Args: texts(200, 1)}, true},
		{impl.Input{Depth: 1, Args: texts(201, 0)}, false},
		{impl.Input{Depth: 1, Lines: texts(200, 1)}, true},
		{impl.Input{Depth: 1, Lines: texts(201, 0)}, false},
		{impl.Input{Depth: 1, Args: texts(200, 0), Lines: texts(200, 0)}, true},
		{impl.Input{Depth: 1, Args: texts(2, 4000), Lines: texts(2, 4000)}, true},
		{impl.Input{Depth: 1, Args: append(texts(2, 1), texts(1, 4001)...)}, false},
		{impl.Input{Depth: 1, Lines: append(texts(2, 1), texts(1, 4001)...)}, false},
		{impl.Input{Depth: 1, Lines: append(texts(1, 4001), texts(2, 1)...)}, false},
	} {
		if got := impl.InputOk(c.in); got != c.ok {
			t.Errorf("%s: %v", shortly(c.in), got)
		}
		u := boundText(t, "print(1)")
		c.in.Ticks = max(c.in.Ticks, -1)
		code := 3
		if c.ok && c.in.Ticks < 2 {
			code = 2
		} else if c.ok {
			code = 0
		}
		r := impl.Run(u, c.in)
		if r.Code != code {
			t.Errorf("%s: code %d", shortly(c.in), r.Code)
		}
		if code == 3 && !sameReport(r, impl.Report{Code: 3}) {
			t.Errorf("%s: %+v", shortly(c.in), r)
		}
		if v := impl.Look(u, c.in, 0); v.Ok != (code == 0) || !v.Ok && !sameView(v, impl.View{}) {
			t.Errorf("%s: %+v", shortly(c.in), v)
		}
	}
}

// P4: a unit that is not valid is not run.
func TestRunWrongUnits(t *testing.T) {
	whole := boundText(t, "let a = 1; print(a)")
	units := []impl.Unit{{}, {Fns: make([]impl.Fn, 1)}}
	for n := range whole.Fns[0].Nodes {
		u := copiedUnit(whole)
		u.Fns[0].Nodes[n].Kind = 99
		units = append(units, u)
	}
	for _, u := range units {
		if r := impl.Run(u, plenty()); !sameReport(r, impl.Report{Code: 3}) {
			t.Errorf("%s: %+v", unitTold(u), r)
		}
		for _, k := range []int{-1, 0, 1} {
			if v := impl.Look(u, plenty(), k); !sameView(v, impl.View{}) {
				t.Errorf("%s: %+v", unitTold(u), v)
			}
		}
	}
}

// P4: the Args are the text's further arguments; a text without Rest drops them.
func TestArgs(t *testing.T) {
	in := plenty()
	in.Args = []string{"a", "", "c d"}
	checkShown(t, "args", saysOf(ranText(t, "print(...); let a = ...; print(a); return ...", in)), []string{"a  c d", "a", "gives a  c d"})
	u := boundText(t, "print(1)")
	u.Fns[0].Rest = false
	checkShown(t, "no rest", saysOf(ranUnit(t, "no rest", u, in)), []string{"1"})
	in.Args = nil
	checkShown(t, "none", saysOf(ranText(t, "print(...); print((...)); return ...", in)), []string{"", "nil"})
}

// checkTicks: a text needs so many ticks; with less of them nothing more is done or recorded behind the last one.
func checkTicks(t *testing.T, text string, ticks int) {
	t.Helper()
	whole := ranText(t, text, plenty())
	if whole.Code != 0 || whole.Ticks != ticks {
		t.Errorf("%s: code %d, %d ticks, want %d", text, whole.Code, whole.Ticks, ticks)
		return
	}
	for n := range ticks + 1 {
		in := plenty()
		in.Ticks = n
		r := ranText(t, text, in)
		code := 2
		if n == ticks {
			code = 0
		}
		if r.Code != code || r.Ticks != n || len(r.Recs) > len(whole.Recs) || !slices.Equal(r.Recs, whole.Recs[:len(r.Recs)]) {
			t.Errorf("%s, %d ticks: code %d, %d used, %d records of %d", text, n, r.Code, r.Ticks, len(r.Recs), len(whole.Recs))
		}
		if code == 2 && (len(r.Vals) > 0 || r.Error != "" || r.Trace != "") {
			t.Errorf("%s, %d ticks: %+v", text, n, withoutRecs(r))
		}
	}
}

// P4: what a tick is due for.
func TestTicks(t *testing.T) {
	checkTicks(t, "", 0)
	checkTicks(t, "{}; {{}}", 0)
	checkTicks(t, "let a", 1)
	checkTicks(t, "let a, b = 1, 2 + 3 * 4; a, b = b, a; return a", 3)
	checkTicks(t, "if true {let a} else {let b}; if false {let a}", 3)
	checkTicks(t, "if false {} elif false {} elif true {let a}", 4)
	checkTicks(t, "let a = {}; a.x = 1; let b = a.x and #a or not a; let f = fn() {}", 4)
	checkTicks(t, "type(1)", 2)
	checkTicks(t, "let a = type(type(1))", 3)
	checkTicks(t, "fn f(a) {return a}; f(f(1))", 2+1+2+2)
	// A turn of a while is its condition, the one that ends it too.
	checkTicks(t, "while false {}", 2)
	checkTicks(t, "let i = 0; while i < 3 {i = i + 1}", 1+1+4+3)
	checkTicks(t, "while true {break}", 3)
	checkTicks(t, "for i = 1, 3 {}", 4)
	checkTicks(t, "for i = 1, 0 {}", 1)
	checkTicks(t, "for i = 1, 3 {next}", 7)
	checkTicks(t, "for k in {} {}", 1)
	checkTicks(t, "for k in {1, 2} {}", 3)
	// A turn over a fn is a tick and its call, the last turn too.
	checkTicks(t, "for k in read {}", 3)
	checkTicks(t, "let n = 0; for k in fn() {n = n + 1; if n < 3 {return n}} {}", 2+3*(2+2)+2)
	checkTicks(t, "for k in setkind({}, {.each = fn(t) {return read}}) {}", 1+1+1+1+2)
	checkTicks(t, "let s = \"a\" .. 1", 2)
	checkTicks(t, "let s = \"a\" .. 1 .. \"b\" .. 2.5", 4)
	checkTicks(t, "let s = setkind({}, {.join = type}) .. 1", 1+1+1+1)
	// A handler is a call; a table that is called costs one for itself and one for each handler.
	checkTicks(t, "let s = setkind({}, {.add = type}) + 1", 1+1+1)
	checkTicks(t, "setkind({}, {.call = type})()", 1+1+2)
	checkTicks(t, "try {throw 1} catch e {let b}", 3)
	checkTicks(t, "{defer type(1)}", 2)
	checkTicks(t, "resume(task(fn() {yield(); let a}))", 2+1+1+2)
	checkTicks(t, "setkind({}, {.last = fn() {let a}}); collect()", 2+2+1+1)
}

// P4: the text's own call costs no tick and makes no record.
func TestTextAlone(t *testing.T) {
	for _, text := range []string{"", "return", "return 1, nil"} {
		r := ranText(t, text, plenty())
		for _, rec := range r.Recs {
			if rec.Kind != impl.RecLine {
				t.Errorf("%s: %+v", text, rec)
			}
		}
	}
	r := ranText(t, "return 1, nil, \"s\", 1.5, {}, print, fn() {}", plenty())
	checkShown(t, "return", r.Vals, []string{"1", "nil", "s", "3p-1", "table", "builtin", "fn"})
	if r.Ticks != 1 || r.Made != 2 {
		t.Errorf("%+v", r)
	}
}

// checkCells: a text makes so many cells; with one less it is ErrCells, at the very last.
func checkCells(t *testing.T, text string, cells int) {
	t.Helper()
	for n, code := range map[int]int{cells: 0, cells - 1: 1} {
		if n < 0 {
			continue
		}
		in := plenty()
		in.Cells = n
		r := ranText(t, text, in)
		if r.Code != code || code == 0 && r.Made != cells || code == 1 && r.Error != "error 9" {
			t.Errorf("%s, %d cells: %+v", text, n, withoutRecs(r))
		}
	}
}

// P4: what makes cells.
func TestCells(t *testing.T) {
	checkCells(t, "let a = 1 .. 2; print(a, 2 + 1, read())", 0)
	checkCells(t, "let a = {}", 1)
	checkCells(t, "let a = {1, 2, .x = 3}", 4)
	checkCells(t, "let a = {}; a.x = 1; a.x = 2; a.x = nil; a.x = nil; a.x = 3", 3)
	checkCells(t, "let a = {1, nil, 3}", 3)
	checkCells(t, "let a = {}; rawset(a, 1, 2); rawset(a, 1, 3)", 2)
	checkCells(t, "let f = fn() {}", 1)
	checkCells(t, "let a, b, c = 1, 2, 3; let f = fn() {return a, b, a}", 3)
	checkCells(t, "let a = 1; let f = fn() {return fn() {return a}}; f(); f()", 2+2+2)
	checkCells(t, "let f = fn() {}; let k = task(f)", 2)
	checkCells(t, "let a = {1, (fn(...) {return ...})(2, 3, 4)}", 1+4+1)
	checkCells(t, "let a = {}; for i = 1, 5 {a[i] = {}}", 1+5+5)
}

// P4: where the allowance is passed nothing is made: no table, no part of a table, no fn, no task.
func TestCellsNothingMade(t *testing.T) {
	in := plenty()
	in.Cells = 3
	text := `let a = {1}
try {a[2], a[3] = 2, 3} catch e, tr {print(e.code, e.line, tr, #a, a[2])}
try {let b = {}} catch e {print(e.code)}
try {task(print)} catch e {print(e.code)}
try {a[2] = nil; a[7] = 1} catch e {print(e.code, a[7])}
a[1] = 5
print(cells())`
	checkShown(t, text, saysOf(ranText(t, text, in)), []string{"9 2 main:2 2 2", "9", "12", "9 nil", "2"})
	if r := ranText(t, text, in); r.Made != 3 {
		t.Error(r.Made)
	}
	// The tables of errors make none, but they are counted where they are reached.
	in.Cells = 0
	text = `let all = 0
try {throw nil + 1} catch e {print(e.code, cells())
try {let b = {}} catch f {print(f.code, cells())}
try {e.x = 1} catch f {print(f.code); e.code = nil; print(cells()); collect()}}
print(cells(), collect())`
	checkShown(t, text, saysOf(ranText(t, text, in)), []string{"1 3", "9 6", "9", "5", "0 0"})
}

// P4: all other errors of the same operation come ahead of ErrCells.
func TestCellsComeLast(t *testing.T) {
	in := plenty()
	in.Cells = 501
	text := `let a = {}
for i = 1, 500 {a[i] = i}
fn code(f) {try {f()} catch e {print(e.code)}}
code(fn() {a[501] = 1})`
	if r := ranText(t, text, in); r.Error != "error 9" {
		t.Errorf("%+v", withoutRecs(r))
	}
	in.Cells = 505
	text = `let a, b = {}, {}
for i = 1, 500 {a[i] = i}
collect()
let c = {1}
try {a[501] = 1} catch e {print(e.code)}
try {rawset(a, 501, 1)} catch e {print(e.code)}
try {b[nil] = 1} catch e {print(e.code)}
try {rawset(b, 0.0 / 0.0, 1)} catch e {print(e.code)}
try {rawset(1, 2, 3)} catch e {print(e.code)}
try {task(1)} catch e {print(e.code)}
try {task(print)} catch e {print(e.code)}
try {b[1] = 1; b[2] = 2} catch e {print(e.code)}
a[501] = nil
a[500] = nil
try {a.x = 7} catch e {print(e.code)}
print(#a)`
	checkShown(t, text, saysOf(ranText(t, text, in)), []string{"4", "4", "5", "5", "12", "12", "12", "9", "9", "499"})
	in.Cells = 204
	text = `let f = fn() {}
for i = 1, 100 {task(f)}
let r = {}; r.a = 1; r.b = 2
try {task(f)} catch e {print(e.code)}
collect()
try {task(f)} catch e {print(e.code)}
for i = 1, 200 {r[i] = i}
try {task(f)} catch e {print(e.code)}
try {r.c = 1} catch e {print(e.code)}`
	checkShown(t, text, saysOf(ranText(t, text, in)), []string{"10", "10", "10", "9"})
}

// P4: what lives is what the last collect counted; what was made since counts on top of it.
func TestCellsBehindCollect(t *testing.T) {
	in := plenty()
	in.Cells = 10
	text := `let keep = {1, 2}
for i = 1, 7 {let gone = {}}
try {let more = {}} catch e {print(e.code)}
print(collect())
for i = 1, 7 {let gone = {}}
try {let more = {}} catch e {print(e.code)}
print(cells())
try {let more = {}} catch e {print(e.code)}
keep = nil
print(collect())
for i = 1, 10 {let gone = {}}
try {let more = {}} catch e {print(e.code)}`
	r := ranText(t, text, in)
	checkShown(t, text, saysOf(r), []string{"9", "3", "9", "3", "9", "0", "9"})
	if r.Made != 3+7+7+10 {
		t.Error(r.Made)
	}
}

// P4: how many records there can be is bounded by the ticks well below MaxRecs; no run that uses all of them comes to its end.
func TestRecordsStayBelow(t *testing.T) {
	for _, text := range []string{
		"while true {try {throw nil} catch e {}}",
		"fn f() {throw 1}; while true {try {f()} catch e {}}",
		"let k = {.last = fn() {throw 1}}; while true {for i = 1, 20 {setkind({}, k)}; collect()}",
		"let f = fn() {while true {yield()}}; let k = task(f); while true {resume(k)}",
	} {
		r := ranText(t, text, plenty())
		if r.Code != 2 || r.Ticks != impl.MaxTicks || len(r.Recs) >= impl.MaxRecs {
			t.Errorf("%s: %+v, %d records", text, withoutRecs(r), len(r.Recs))
		}
	}
	if impl.MaxRecs != 100000 || fmt.Sprint(impl.MaxList, impl.MaxChain, impl.MaxTasks, impl.MaxInput) != "250 20 100 200" {
		t.Error("limits")
	}
}
