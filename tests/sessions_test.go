package tests

import (
	"fmt"
	"reflect"
	"slices"
	"strings"
	"testing"

	"loop.example/heddle/impl"
)

// allSessions: sessions of all sorts, by name.
func allSessions() map[string]played {
	tasks := hostOf("a", lined(
		`fn deep(n) {`, `	if n == 0 {yield("deep")} else {deep(n - 1)}`, `	return n`, `}`,
		`let one = task(fn(x) {`, `	let y = yield(x + 1)`, `	deep(y)`, `	throw "off"`, `})`,
		`let two = task(fn() {`, `	defer print("two gone")`, `	resume(one, 5)`, `	yield()`, `})`,
		`print(resume(one, 1))`, `print(resume(one, 2))`, `print(resume(two))`, `print(giveup(two))`, `print(status(one), status(two))`))
	lasts := hostOf("a", lined(
		`let k = {}`, `k.last = fn(t) {`, `	print("last", t.n)`, `	if t.n == 2 {throw "no word"}`, `}`,
		`for n = 1, 3 {setkind({.n = n}, k)}`, `collect()`, `print("collected")`))
	modules := hostOf("a", lined(`print("a", now(), ...)`, `let b = import("b")`, `print(b.x, import("b") == b, import("c"))`),
		"b", lined(`print("b")`, `try {import("a")} catch e {print(e.code, e.name)}`, `return {.x = 7}`), "c", `return "see"`)
	time := hostOf("a", lined(
		`after(2, fn() {print("two", now())})`, `after(1, fn() {`, `	print("one", now())`, `	after(1, fn() {print("again", now())})`, `})`, `after(0, fn() {print("none", now())})`,
		`after(2, fn() {throw "late"})`, `after(2, fn() {print("behind", now())})`))
	talk := hostOf("a", lined(
		`on("c", fn(x) {`, `	print("c", x, read())`, `	on("d", fn(y) {print("d", y)})`, `})`, `on("bad", fn(x) {throw {.code = 7, .x = x}})`, `on("worse", fn(x) {x.y = 1})`, `on("gone", print)`, `on("gone", nil)`))
	inner := hostOf("a", lined(`print("in")`, `house.loop()`, `print("out")`))
	spawned := hostOf("a", lined(`let t = task(house.loop)`, `print("in")`, `resume(t)`, `print("out")`))
	return map[string]played{
		"no lines":              {modules, nil},
		"begin":                 {modules, words("begin")},
		"begin twice":           {modules, words("begin begin tick")},
		"other words":           {modules, []string{"BEGIN", "", "begin ", "end", "x", "nil"}},
		"an empty source":       {hostOf("a", ""), words("begin tick")},
		"a module that throws":  {hostOf("a", "let x = import(\"b\")", "b", "throw {.code = \"mine\"}"), words("begin begin")},
		"a module that is not":  {hostOf("a", "import(\"z\")"), words("begin begin")},
		"a ring":                {hostOf("a", `import("b")`, "b", `import("c")`, "c", `import("a")`), words("begin tick begin")},
		"a ring of itself":      {hostOf("a", `try {import("a")} catch e, trace {print(e.code, trace)}`), words("begin begin")},
		"time":                  {time, words("tick begin tick tick tick")},
		"talk":                  {talk, []string{"say", "c", "ahead", "begin", "input", "in", "say", "c", "hi", "say", "d", "", "say", "bad", "x", "say", "worse", "x", "say", "gone", "x", "say", "", ""}},
		"half a word":           {talk, words("begin input")},
		"half a message":        {talk, words("begin say c")},
		"a message of nobody":   {talk, words("begin say")},
		"tasks":                 {tasks, words("begin tick")},
		"last words":            {lasts, words("begin tick")},
		"a loop in the loop":    {inner, words("begin tick x begin")},
		"a loop in a task":      {spawned, words("begin tick x")},
		"few ticks":             {allowing(modules, 90, 60, 20000), words("begin tick")},
		"no ticks":              {allowing(modules, 0, 60, 20000), words("begin tick")},
		"few cells":             {allowing(modules, 5000, 60, 30), words("begin tick")},
		"no cells":              {allowing(modules, 5000, 60, 0), words("begin tick")},
		"little depth":          {allowing(modules, 5000, 5, 20000), words("begin tick")},
		"no depth for the loop": {allowing(modules, 5000, 1, 20000), words("begin tick")},
		"a text that goes on":   {allowing(hostOf("a", "let n = 0\nwhile true {\n\tn = n + 1\n}"), 600, 60, 20000), words("begin tick")},
		"a fn without an end":   {hostOf("a", "fn f() {\n\ttry {\n\t\tdefer print(1)\n\t\tthrow f\n\t} catch e {\n\t\tf()\n\t}\n}\nf()"), words("begin tick")},
	}
}

// P10: a session has one report, walked, stepped, and on the machine at any pace; by the plain machine, too.
func TestSessionReports(t *testing.T) {
	for told, s := range allSessions() {
		t.Run(told, func(t *testing.T) {
			t.Parallel()
			checkReports(t, told, s.host, s.lines)
		})
	}
}

// P10: paces at their limits and one past them.
func TestSessionPaces(t *testing.T) {
	for _, name := range []string{"begin", "tasks", "last words", "few ticks", "no lines"} {
		s := allSessions()[name]
		want := impl.Session(s.host, s.lines)
		for _, pace := range []int{0, 1, 2, 3, 10, 999, 1000} {
			if got := impl.SessionLoom(s.host, s.lines, pace); !sameReport(got, want) {
				t.Errorf("%s at pace %d: %s, want %s", name, pace, reportTold(got), reportTold(want))
			}
		}
		for _, pace := range []int{leastInt, -1000, -1, 1001, mostInt} {
			if got := impl.SessionLoom(s.host, s.lines, pace); !reflect.DeepEqual(got, impl.Report{Code: 3}) {
				t.Errorf("%s at pace %d: %s", name, pace, reportTold(got))
			}
		}
	}
}

// P10: with each allowance at its ends and between them.
func TestSessionAllowances(t *testing.T) {
	for _, name := range []string{"begin", "time", "talk", "tasks", "last words", "a ring"} {
		t.Run(name, func(t *testing.T) {
			t.Parallel()
			s := allSessions()[name]
			whole := impl.Session(s.host, s.lines)
			if whole.Code != 0 {
				t.Errorf("code %d", whole.Code)
			}
			for ticks, code := range map[int]int{whole.Ticks: 0, whole.Ticks - 1: 2, whole.Ticks / 2: 2, whole.Ticks / 3: 2} {
				if r := checkReports(t, fmt.Sprint(ticks, " ticks"), allowing(s.host, ticks, 60, 20000), s.lines); r.Code != code {
					t.Errorf("%d of %d ticks: code %d", ticks, whole.Ticks, r.Code)
				}
			}
			for n := 1; n <= 7; n += 2 {
				checkReports(t, fmt.Sprint("depth ", n), allowing(s.host, 5000, n, 20000), s.lines)
				cells := n * whole.Made / 7
				checkReports(t, fmt.Sprint(cells, " cells"), allowing(s.host, 5000, 60, cells), s.lines)
			}
		})
	}
}

// checkSessionSays: what a session prints, in all ways.
func checkSessionSays(t *testing.T, told string, h impl.Hosted, lines []string, want ...string) {
	t.Helper()
	checkShown(t, told, saysOf(checkReports(t, told, h, lines)), want)
}

// P10: what sessions say, written out.
func TestSessionSays(t *testing.T) {
	all := allSessions()
	for told, want := range map[string][]string{
		"no lines":            nil,
		"begin":               {"a 0 a", "b", "ring a", "7 true see"},
		"begin twice":         {"a 0 a", "b", "ring a", "7 true see"},
		"other words":         nil,
		"a ring of itself":    {"ring import:7 fn:71 import:13 guard:45 fn:62 main:74"},
		"time":                {"none 2", "one 2", "two 3", "error late fn:77 guard:45 tick:55 fn:62 main:81", "behind 3", "again 3"},
		"half a word":         nil,
		"half a message":      {"c nil nil"},
		"a message of nobody": {"nobody hears nil"},
		"talk": {"nobody hears c", "c hi in", "d ", "error 7 fn:75 guard:45 fn:64 main:81", "error 7 fn:76 guard:45 fn:64 main:81", "nobody hears gone",
			"nobody hears "},
		"tasks": {"true 2", "true deep", "true", "two gone", "true", "done done"},
	} {
		checkSessionSays(t, told, all[told].host, all[told].lines, want...)
	}
}

// unlinked: hosts whose bundles can't be linked, by the Code of Link.
func unlinked() map[int][]impl.Hosted {
	with := func(texts ...string) impl.Hosted {
		var sources []string
		for i, text := range texts {
			sources = append(sources, fmt.Sprint("s", i), text)
		}
		return hostOf(sources...)
	}
	astray := with("print(1)")
	astray.Main = "z"
	rootless := with("print(1)")
	rootless.Bundle.Roots = nil
	return map[int][]impl.Hosted{
		1: {{Ticks: 5000, Depth: 60, Cells: 20000}, with("print("), with("print(1)", ")"), with(sized(20001))},
		2: {astray, rootless},
		3: {with(sized(20000), sized(20000), sized(20000), sized(20000)), with(strings.Repeat("{", 98) + strings.Repeat("}", 98)), with("for a, b, c, d, e in print {}"), with(strings.Repeat("print(fn() {})\n", 200), strings.Repeat("print(fn() {})\n", 100))},
		4: {with("q()"), with("print(1)", "\nq()")},
		5: {with("print = 1")},
		6: {with("break")},
		7: {with("let f = fn() {return ...}")},
		8: {with("const k = now()")},
	}
}

// checkNoSession: there is nothing but Code 3.
func checkNoSession(t *testing.T, told string, h impl.Hosted, lines []string) {
	t.Helper()
	if got := impl.Session(h, lines); !reflect.DeepEqual(got, impl.Report{Code: 3}) {
		t.Errorf("%s: Session %s", told, reportTold(got))
	}
	for _, pace := range []int{leastInt, -1, 0, 1, 1000, 1001, mostInt} {
		if got := impl.SessionLoom(h, lines, pace); !reflect.DeepEqual(got, impl.Report{Code: 3}) {
			t.Errorf("%s: SessionLoom at pace %d %s", told, pace, reportTold(got))
		}
	}
	if got := impl.Moments(h, lines); len(got) > 0 {
		t.Errorf("%s: %d moments", told, len(got))
	}
	for k := -2; k <= 2; k++ {
		if got := impl.StackAt(h, lines, k, 0); len(got) > 0 {
			t.Errorf("%s: StackAt %d: %v", told, k, got)
		}
	}
	for _, s := range []impl.Stop{{}, {Kind: impl.OnThrow}, {Kind: impl.OnLine, Fn: 10, Line: 60}, {Kind: impl.OnCall, Fn: 1}, {Kind: impl.OnWatch, Fn: 1, Name: "clock"}} {
		if got := impl.Hits(h, lines, s); len(got) > 0 {
			t.Errorf("%s: Hits of %v: %v", told, s, got)
		}
	}
}

// P10, P11: bundles that can't be linked, for each Code of Link, whatever the lines and the allowances are.
func TestSessionUnlinked(t *testing.T) {
	for code, hosts := range unlinked() {
		for i, h := range hosts {
			told := fmt.Sprint("code ", code, ", host ", i)
			if got := impl.Link(h.Bundle, h.Main).Code; got != code {
				t.Errorf("%s: code %d", told, got)
			}
			checkNoSession(t, told, h, nil)
			checkNoSession(t, told, h, words("begin tick"))
			checkNoSession(t, told, h, make([]string, 201))
			checkNoSession(t, told, impl.Hosted{Bundle: h.Bundle, Main: h.Main}, words("begin"))
		}
	}
	checkNoSession(t, "nothing", impl.Hosted{}, nil)
}

// checkThereIs: a session, whatever it does: its text is open ahead of all moments.
func checkThereIs(t *testing.T, told string, h impl.Hosted, lines []string) {
	t.Helper()
	if r := checkReports(t, told, h, lines); r.Code == 3 {
		t.Errorf("%s: code 3", told)
	}
	if got := impl.StackAt(h, lines, -1, 0); !slices.Equal(got, []impl.CallAt{{From: -1}}) {
		t.Errorf("%s: StackAt -1: %v", told, got)
	}
}

// P10, P11: allowances and lines at their limits and one past them.
func TestSessionInputs(t *testing.T) {
	h := hostOf("a", "print(read())")
	for told, c := range map[string]struct {
		good, wrong []int
		set         func(n int) impl.Hosted
	}{
		"ticks": {[]int{0, 1, 4999, 5000}, []int{leastInt, -1, 5001, mostInt}, func(n int) impl.Hosted { return allowing(h, n, 60, 20000) }},
		"depth": {[]int{1, 2, 59, 60}, []int{leastInt, -1, 0, 61, mostInt}, func(n int) impl.Hosted { return allowing(h, 5000, n, 20000) }},
		"cells": {[]int{0, 1, 19999, 20000}, []int{leastInt, -1, 20001, mostInt}, func(n int) impl.Hosted { return allowing(h, 5000, 60, n) }},
	} {
		for _, n := range c.good {
			checkThereIs(t, fmt.Sprint(told, " ", n), c.set(n), words("begin"))
		}
		for _, n := range c.wrong {
			checkNoSession(t, fmt.Sprint(told, " ", n), c.set(n), words("begin"))
		}
	}
	for count, ok := range map[int]bool{0: true, 1: true, 199: true, 200: true, 201: false, 1000: false} {
		lines := slices.Repeat([]string{"tick"}, count)
		if ok {
			checkThereIs(t, fmt.Sprint(count, " lines"), h, lines)
		} else {
			checkNoSession(t, fmt.Sprint(count, " lines"), h, lines)
		}
	}
	long := strings.Repeat("x", 4000)
	checkSessionSays(t, "a long line", h, []string{"input", long, "begin", long}, long)
	checkNoSession(t, "a line that is too long", h, []string{"begin", "input", long + "x"})
}

// P10: all lines are read, the last one of the most too.
func TestSessionMostLines(t *testing.T) {
	h := hostOf("a", "on(\"c\", fn(x) {print(x, now())})")
	lines := append(slices.Repeat([]string{"tick"}, 196), "begin", "say", "c", "end")
	checkSessionSays(t, "most lines", h, lines, "end 196")
}

// P17: what is given shares nothing with what was asked or with a second answer, and is the same again.
func TestSessionMemory(t *testing.T) {
	h := hostOf("a", "let kept = read()\nprint(kept)\nprint(\"said\")\nthrow kept")
	lines := []string{"input", "a line that is read", "begin"}
	given := append([]string{h.Bundle.Sources[0].Text, h.Bundle.Sources[0].Name, h.Main}, lines...)
	for told, ask := range map[string]func() impl.Report{
		"Session":     func() impl.Report { return impl.Session(h, lines) },
		"SessionLoom": func() impl.Report { return impl.SessionLoom(h, lines, 3) },
	} {
		one, two := ask(), ask()
		before := reportTold(one)
		var texts, again []string
		for i := range one.Recs {
			if one.Recs[i].Kind == impl.RecPrint || one.Recs[i].Kind == impl.RecThrow {
				texts, again = append(texts, one.Recs[i].Text), append(again, two.Recs[i].Text)
			}
		}
		if len(texts) != 5 || sharedTexts(texts, given) || sharedTexts(texts, again) {
			t.Errorf("%s: texts %q", told, texts)
		}
		for i := range one.Recs {
			one.Recs[i] = impl.Rec{Kind: -1}
		}
		wantTold(t, told, reportTold(two), before)
		wantTold(t, told+", again", reportTold(ask()), before)
	}
}
