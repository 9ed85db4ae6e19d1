package tests

import (
	"fmt"
	"strings"
	"testing"

	"loop.example/heddle/impl"
)

// P4: print.
func TestPrints(t *testing.T) {
	checkRecs(t, "print()\nprint(1, nil, \"s\")\nprint(\"\", \"\")\nprint(\"a\\nb\")", "print 0.0:1", "print 0.0:2 1 nil s", "print 0.0:3", "print 0.0:4 a\nb")
	checkSays(t, "let t = {print(1)}; print(#t, print() == nil, type(print()))", "1", "", "", "0 true nil")
}

// P4: what each builtin gives with no arguments, with wrong ones, and with too many.
func TestBuiltins(t *testing.T) {
	for _, c := range []struct{ call, gives string }{
		{"read()", "nil"}, {"read(1, 2)", "nil"},
		{"type()", "nil"}, {"type(nil)", "nil"}, {"type(true)", "bool"}, {"type(false)", "bool"}, {"type(1)", "int"}, {"type(1.5)", "float"}, {"type(1.0)", "float"},
		{"type(\"\")", "str"}, {"type({})", "table"}, {"type(none)", "fn"}, {"type(print)", "fn"}, {"type(type)", "fn"}, {"type(task(none))", "task"}, {"type(1, \"s\")", "int"},
		{"text()", "nil"}, {"text(true)", "true"}, {"text(-7)", "-7"}, {"text(1.5)", "3p-1"}, {"text(\"s\")", "s"}, {"text({})", "table"}, {"text(print)", "builtin"},
		{"text(none)", "fn"}, {"text(task(none))", "task"}, {"text(1, 2)", "1"}, {"type(text(1))", "str"}, {"text(0.0 / 0.0)", "nan"},
		{"kind()", "nil"}, {"kind(1)", "nil"}, {"kind({})", "nil"}, {"kind(setkind({}, {}))", "table"}, {"kind(\"s\", {})", "nil"},
		{"rawget({5}, 1)", "5"}, {"rawget({5}, 1.0, 2)", "5"}, {"rawget({5})", "nil"}, {"rawget({5}, nil)", "nil"}, {"rawget({5}, 0.0 / 0.0)", "nil"}, {"rawget(setkind({}, {.index = print}), 1)", "nil"},
		{"rawset({}, 1, 2)", ""}, {"rawset({}, 1)", ""}, {"rawset({}, 1, 2, 3)", ""},
		{"print()", ""}, {"print(1)", ""},
		{"collect()", "3"}, {"collect(1, {})", "3"}, {"cells()", "3"}, {"cells(1, {})", "3"},
		{"status(task(none))", "new"}, {"status(task(none), 1)", "new"}, {"giveup(task(none))", "true"}, {"resume(task(two))", "true 1 2"},
	} {
		text := "fn none() {}; fn two() {return 1, 2}; fn many() {return 1, 2, 3}\nreturn " + c.call
		r := ranText(t, text, plenty())
		if got := strings.Join(r.Vals, " "); r.Code != 0 || got != c.gives {
			t.Errorf("%s: %+v, want %s", c.call, withoutRecs(r), c.gives)
		}
		gives := 1
		if c.gives == "" {
			gives = 0
		}
		if len(r.Vals) < gives || gives == 0 && len(r.Vals) > 0 {
			t.Errorf("%s: %v", c.call, r.Vals)
		}
	}
	for _, c := range []struct {
		call string
		code int
	}{
		{"setkind()", impl.ErrArgs}, {"setkind(1, {})", impl.ErrArgs}, {"setkind({}, 1)", impl.ErrArgs}, {"setkind({}, print)", impl.ErrArgs}, {"setkind(nil, nil)", impl.ErrArgs}, {"setkind({})", 0},
		{"setkind({}, {}, 1)", 0}, {"setkind(\"s\", {})", impl.ErrArgs}, {"setkind({}, \"s\")", impl.ErrArgs}, {"setkind({}, false)", impl.ErrArgs},
		{"rawget()", impl.ErrArgs}, {"rawget(nil, 1)", impl.ErrArgs}, {"rawget(\"s\", 1)", impl.ErrArgs},
		{"rawset()", impl.ErrArgs}, {"rawset(1, nil, 2)", impl.ErrArgs}, {"rawset({})", impl.ErrKey}, {"rawset({}, nil, 1)", impl.ErrKey}, {"rawset({}, 0.0 / 0.0, nil)", impl.ErrKey},
		{"task()", impl.ErrArgs}, {"task(print)", impl.ErrArgs}, {"task(setkind({}, {.call = none}))", impl.ErrArgs}, {"resume()", impl.ErrArgs}, {"giveup()", impl.ErrArgs}, {"status()", impl.ErrArgs}, {"yield()", impl.ErrTask},
	} {
		checkCode(t, c.call, c.code)
	}
}

// P4: what setkind, kind, rawget and rawset do.
func TestKindBuiltins(t *testing.T) {
	checkSays(t, "let t, k = {}, {}; print(setkind(t, k) == t, kind(t) == k, kind(k)); setkind(t); print(kind(t)); setkind(t, k); setkind(t, nil); print(kind(t))", "true true nil", "nil", "nil")
	checkSays(t, "let t = {}; setkind(t, t); t.index = {.x = 5}; print(t.x, kind(t) == t)", "5 true")
	// The kind is a table like any other: what changes in it counts at once, by Get alone.
	checkSays(t, "let k = {}; let t = setkind({}, k); try {print(t + 1)} catch e {print(e.code)}; k.add = fn() {return 7}; print(t + 1); k.add = nil; try {print(t + 1)} catch e {print(e.code)}", "1", "7", "1")
	checkSays(t, "let k = setkind({}, {.index = {.add = fn() {return 7}}}); let t = setkind({}, k); print(type(k.add)); try {print(t + 1)} catch e {print(e.code)}", "fn", "1")
	checkSays(t, "let t = setkind({}, {.setindex = print, .index = print}); rawset(t, \"x\", 1); print(rawget(t, \"x\"), rawget(t, \"y\")); rawset(t, \"x\", nil); rawset(t, \"x\"); print(rawget(t, \"x\"))", "1 nil", "nil")
	checkSays(t, "let t = {}; rawset(t, 2.0, \"a\"); print(t[2]); for k, v in t {print(k, type(k), v)}", "a", "2 int a")
}

// P4: lines are read one by one; behind the last one there is nil, again and again.
func TestRead(t *testing.T) {
	in := plenty()
	in.Lines = []string{"one", "", "nil", strings.Repeat("x", impl.MaxStr)}
	text := "print(read(), type(read()), type(read())); print(#read(), read(), read()); print(read())"
	checkShown(t, text, saysOf(ranText(t, text, in)), []string{"one str str", "4000 nil nil", "nil"})
	// All tasks and fns read the same lines.
	in.Lines = []string{"a", "b", "c", "d"}
	text = "let k = task(fn() {yield(read()); return read()}); print(resume(k)); print(read()); print(resume(k)); print((fn() {return read()})())"
	checkShown(t, text, saysOf(ranText(t, text, in)), []string{"true a", "b", "true c", "d"})
}

// P4: a print and a string have MaxStr bytes at most.
func TestLongTexts(t *testing.T) {
	in := plenty()
	in.Lines = []string{strings.Repeat("x", 3998), strings.Repeat("y", 4000)}
	text := `let s, l = read(), read()
print(l)
print(s, 1)
try {print(s, 12)} catch e, t {print(e.code, t)}
try {print(s, "", "")} catch e {print(e.code)}
try {print(l, "")} catch e {print(e.code)}
let two = s .. 12
print(#two)
try {let a = s .. 123} catch e {print(e.code)}
try {let a = l .. ""} catch e {print("no")}
try {let a = 1 .. l} catch e {print(e.code)}
print(#text(l), l == text(l))`
	r := ranText(t, text, in)
	checkShown(t, text, saysOf(r), []string{in.Lines[1], in.Lines[0] + " 1", "4 main:4", in.Lines[0] + "  ", "4", "4000", "4", "4", "4000 true"})
}

// P4: builtins are values: they can be kept, passed, compared, used as keys and handlers.
func TestBuiltinsAsValues(t *testing.T) {
	checkSays(t, "let p, t = print, {[print] = 1, [read] = 2}; p(p == print, p == read, t[p], t[read], t[type], text(p))", "true false 1 2 nil builtin")
	for n, name := range []string{"print", "read", "type", "text", "setkind", "kind", "rawget", "rawset", "task", "resume", "yield", "status", "giveup", "collect", "cells"} {
		u := boundText(t, "return "+name)
		found := false
		for _, node := range u.Fns[0].Nodes {
			found = found || node.Kind == impl.NBuiltin && node.Num == int64(n)
		}
		if !found {
			t.Error(fmt.Sprint(name, " is not ", n))
		}
	}
}
