package tests

import (
	"fmt"
	"slices"
	"strings"
	"testing"

	"loop.example/heddle/impl"
)

// viewTold: the task, then of each call fn:line and the variables in scope.
func viewTold(v impl.View) string {
	if !v.Ok {
		return "nothing"
	}
	parts := []string{fmt.Sprint("task ", v.Task)}
	for _, c := range v.Calls {
		part := fmt.Sprint(c.Fn, ":", c.Line)
		for _, s := range c.Vars {
			part += " " + s.Name + "=" + s.Text
		}
		parts = append(parts, part)
	}
	return strings.Join(parts, ", ")
}

// checkLooks: what stands at each record, told behind the record.
func checkLooks(t *testing.T, text string, want ...string) {
	t.Helper()
	u := boundText(t, text)
	r := ranText(t, text, plenty())
	var got []string
	for k, rec := range r.Recs {
		got = append(got, recTold(rec)+" / "+viewTold(impl.Look(u, plenty(), k)))
	}
	if !slices.Equal(got, want) {
		t.Errorf("%s\n%s\nwant\n%s", text, strings.Join(got, "\n"), strings.Join(want, "\n"))
	}
	for _, k := range []int{-1, -99, len(r.Recs), len(r.Recs) + 1, 1 << 60} {
		if v := impl.Look(u, plenty(), k); !sameView(v, impl.View{}) {
			t.Errorf("%s at %d: %s", text, k, viewTold(v))
		}
	}
}

// P4: variables are seen where they are in scope: behind their declaration, in their block, with all of the same name.
func TestLookScopes(t *testing.T) {
	checkLooks(t, "let a = 1\n{\nlet b, a = a + 1\nb = 7\n{\nlet c\n}\n}\nlet d = a\nlet a = 3\nprint(0)",
		"line 0.0:1 / task 0, 0:1",
		"line 0.0:3 / task 0, 0:3 a=1",
		"line 0.0:4 / task 0, 0:4 a=1 b=2 a=nil",
		"line 0.0:6 / task 0, 0:6 a=1 b=7 a=nil",
		"line 0.0:9 / task 0, 0:9 a=1",
		"line 0.0:10 / task 0, 0:10 a=1 d=1",
		"line 0.0:11 / task 0, 0:11 a=1 d=1 a=3",
		"print 0.0:11 0 / task 0, 0:11 a=1 d=1 a=3")
	checkLooks(t, "for i = 1, 2 {\nlet x = i\n}\nfor k, v in {5} {\nprint(k)\n}\ntry {\nthrow 7\n} catch e, t {\nprint(1)\n}",
		"line 0.0:1 / task 0, 0:1",
		"line 0.0:2 / task 0, 0:2 i=1",
		"line 0.0:2 / task 0, 0:2 i=2",
		"line 0.0:4 / task 0, 0:4",
		"line 0.0:5 / task 0, 0:5 k=1 v=5",
		"print 0.0:5 1 / task 0, 0:5 k=1 v=5",
		"line 0.0:7 / task 0, 0:7",
		"line 0.0:8 / task 0, 0:8",
		"throw 0.0:8 7 / task 0, 0:8",
		"catch 0.0:7 7 / task 0, 0:7",
		"line 0.0:10 / task 0, 0:10 e=7 t=main:8",
		"print 0.0:10 1 / task 0, 0:10 e=7 t=main:8")
	checkLooks(t, "if true {\nlet a = {}\n} else {let b}\nlet c = \"x\"\nwhile c {\nlet d = 1.5\nc = nil\n}\n",
		"line 0.0:1 / task 0, 0:1",
		"line 0.0:2 / task 0, 0:2",
		"line 0.0:4 / task 0, 0:4",
		"line 0.0:5 / task 0, 0:5 c=x",
		"line 0.0:6 / task 0, 0:6 c=x",
		"line 0.0:7 / task 0, 0:7 c=x d=3p-1")
}

// P4: calls, the innermost first, each with the line of its own statement at hand; parameters alone at the beginning and at the end.
func TestLookCalls(t *testing.T) {
	checkLooks(t, "let n = 0\nfn f(a, b) {\nlet c = a\na = 5\nreturn c\n}\nn = f(1) + f(2, 3)",
		"line 0.0:1 / task 0, 0:1",
		"line 0.0:2 / task 0, 0:2 n=0",
		"line 0.0:2 / task 0, 0:2 n=0 f=nil",
		"line 0.0:7 / task 0, 0:7 n=0 f=fn",
		"call 0.1:2 f / task 0, 1:0 a=1 b=nil, 0:7 n=0 f=fn",
		"line 0.1:3 / task 0, 1:3 a=1 b=nil, 0:7 n=0 f=fn",
		"line 0.1:4 / task 0, 1:4 a=1 b=nil c=1, 0:7 n=0 f=fn",
		"line 0.1:5 / task 0, 1:5 a=5 b=nil c=1, 0:7 n=0 f=fn",
		"back 0.1:0 / task 0, 1:0 a=5 b=nil, 0:7 n=0 f=fn",
		"call 0.1:2 f / task 0, 1:0 a=2 b=3, 0:7 n=0 f=fn",
		"line 0.1:3 / task 0, 1:3 a=2 b=3, 0:7 n=0 f=fn",
		"line 0.1:4 / task 0, 1:4 a=2 b=3 c=2, 0:7 n=0 f=fn",
		"line 0.1:5 / task 0, 1:5 a=5 b=3 c=2, 0:7 n=0 f=fn",
		"back 0.1:0 / task 0, 1:0 a=5 b=3, 0:7 n=0 f=fn")
	// What is closed over is no variable of the fn; what it changes is seen in the call around it.
	checkLooks(t, "let a = 1\n(fn() {\na = 2\nprint(a)\n})()",
		"line 0.0:1 / task 0, 0:1",
		"line 0.0:2 / task 0, 0:2 a=1",
		"call 0.1:2 / task 0, 1:0, 0:2 a=1",
		"line 0.1:3 / task 0, 1:3, 0:2 a=1",
		"line 0.1:4 / task 0, 1:4, 0:2 a=2",
		"print 0.1:4 2 / task 0, 1:4, 0:2 a=2",
		"back 0.1:0 / task 0, 1:0, 0:2 a=2")
}

// P4: a throw is seen ahead of any leaving, a catch when all inside is left, and what is run meanwhile in its own block.
func TestLookErrors(t *testing.T) {
	checkLooks(t, "fn f(p) {\nlet x = 1\n{\nlet y = 2\nthrow p\n}\n}\ntry {\nlet z = 9\nf(7)\n} catch e {\ne = 1\n}",
		"line 0.0:1 / task 0, 0:1",
		"line 0.0:1 / task 0, 0:1 f=nil",
		"line 0.0:8 / task 0, 0:8 f=fn",
		"line 0.0:9 / task 0, 0:9 f=fn",
		"line 0.0:10 / task 0, 0:10 f=fn z=9",
		"call 0.1:1 f / task 0, 1:0 p=7, 0:10 f=fn z=9",
		"line 0.1:2 / task 0, 1:2 p=7, 0:10 f=fn z=9",
		"line 0.1:4 / task 0, 1:4 p=7 x=1, 0:10 f=fn z=9",
		"line 0.1:5 / task 0, 1:5 p=7 x=1 y=2, 0:10 f=fn z=9",
		"throw 0.1:5 7 / task 0, 1:5 p=7 x=1 y=2, 0:10 f=fn z=9",
		"back 0.1:0 error / task 0, 1:0 p=7, 0:10 f=fn z=9",
		"catch 0.0:8 7 / task 0, 0:8 f=fn",
		"line 0.0:12 / task 0, 0:12 f=fn e=7 _=f:5 main:10")
	checkLooks(t, "{\nlet a = 1\ndefer print(a)\nlet b = 2\n{let c = 3\nprint(c)}\n}\n",
		"line 0.0:2 / task 0, 0:2",
		"line 0.0:3 / task 0, 0:3 a=1",
		"line 0.0:4 / task 0, 0:4 a=1",
		"line 0.0:5 / task 0, 0:5 a=1 b=2",
		"line 0.0:6 / task 0, 0:6 a=1 b=2 c=3",
		"print 0.0:6 3 / task 0, 0:6 a=1 b=2 c=3",
		"print 0.0:3 1 / task 0, 0:3 a=1 b=2")
	for _, way := range []string{"throw 5", "return 5", "break", "next"} {
		text := "fn f() {\nfor i = 1, 1 {\nlet a = 1\ndefer print(a)\nlet b = 2\n{let c = 3\n" + way + "}\n}\n}\ntry {f()} catch e {}"
		u := boundText(t, text)
		r := ranText(t, text, plenty())
		at := slices.IndexFunc(r.Recs, func(rec impl.Rec) bool { return rec.Kind == impl.RecPrint })
		if got, want := viewTold(impl.Look(u, plenty(), at)), "task 0, 1:4 i=1 a=1 b=2, 0:10 f=fn"; got != want {
			t.Errorf("%s: %s, want %s", way, got, want)
		}
	}
}

// P4: turns are seen when the new task is running, last words in the task that collects.
func TestLookTasks(t *testing.T) {
	checkLooks(t, "let k = task(fn(a) {\nlet b = yield(a)\nb = 3\n})\nresume(k, 1)\nresume(k, 2)",
		"line 0.0:1 / task 0, 0:1",
		"line 0.0:5 / task 0, 0:5 k=task",
		"turn 1.0:0 resume / task 1",
		"call 1.1:1 / task 1, 1:0 a=1",
		"line 1.1:2 / task 1, 1:2 a=1",
		"turn 0.0:0 yield / task 0, 0:5 k=task",
		"line 0.0:6 / task 0, 0:6 k=task",
		"turn 1.0:0 resume / task 1, 1:2 a=1",
		"line 1.1:3 / task 1, 1:3 a=1 b=2",
		"back 1.1:0 / task 1, 1:0 a=1",
		"turn 0.0:0 done / task 0, 0:6 k=task")
	checkLooks(t, "let k = task(fn() {\nlet a = 1\ndefer print(2)\n{let b = 3\nyield()}\n})\nresume(k); giveup(k)",
		"line 0.0:1 / task 0, 0:1",
		"line 0.0:7 / task 0, 0:7 k=task",
		"turn 1.0:0 resume / task 1",
		"call 1.1:1 / task 1, 1:0",
		"line 1.1:2 / task 1, 1:2",
		"line 1.1:3 / task 1, 1:3 a=1",
		"line 1.1:4 / task 1, 1:4 a=1",
		"line 1.1:5 / task 1, 1:5 a=1 b=3",
		"turn 0.0:0 yield / task 0, 0:7 k=task",
		"line 0.0:7 / task 0, 0:7 k=task",
		"turn 1.0:0 giveup / task 1, 1:5 a=1 b=3",
		"print 1.1:3 2 / task 1, 1:3 a=1",
		"back 1.1:0 gone / task 1, 1:0",
		"turn 0.0:0 gone / task 0, 0:7 k=task")
	checkLooks(t, "let a = 1\nsetkind({}, {.last = fn(t) {\nthrow 5\n}})\ncollect()",
		"line 0.0:1 / task 0, 0:1",
		"line 0.0:2 / task 0, 0:2 a=1",
		"line 0.0:5 / task 0, 0:5 a=1",
		"last 0.0:0 / task 0, 0:5 a=1",
		"call 0.1:2 / task 0, 1:0 t=table, 0:5 a=1",
		"line 0.1:3 / task 0, 1:3 t=table, 0:5 a=1",
		"throw 0.1:3 5 / task 0, 1:3 t=table, 0:5 a=1",
		"back 0.1:0 error / task 0, 1:0 t=table, 0:5 a=1",
		"catch 0.0:0 5 / task 0, 0:5 a=1")
}

// P4: a run that is out of ticks can be seen up to its last record.
func TestLookOutOfTicks(t *testing.T) {
	u := boundText(t, "let a = 0; while true {a = a + 1}")
	in := plenty()
	in.Ticks = 6
	r := impl.Run(u, in)
	if got := viewTold(impl.Look(u, in, len(r.Recs)-1)); got != "task 0, 0:1 a=1" || r.Code != 2 {
		t.Error(got, r)
	}
	if impl.Look(u, in, len(r.Recs)).Ok {
		t.Error("one too many")
	}
}

// P4, P17: the same arguments have the same answer, which is new memory: it shares none with an argument or another answer.
func TestRunsShareNothing(t *testing.T) {
	text := "fn outer(...) {let name = ...; print(...); print(name); print(read()); return \"literal\", ...}\nlet k = task(outer)\nprint(resume(k, \"x\"))\nthrow outer(...)"
	for _, end := range []string{"throw outer(...)", "return outer(...)", "try {throw outer(...)} catch e, t {return e, t}"} {
		u := boundText(t, strings.Replace(text, "throw outer(...)", end, 1))
		in := plenty()
		in.Args, in.Lines = []string{"argument", "other"}, []string{"line one", "line two"}
		first, again := impl.Run(u, in), impl.Run(u, in)
		if !sameReport(first, again) {
			t.Errorf("%+v, then %+v", first, again)
		}
		texts := func(r impl.Report) []string {
			all := append([]string{r.Error, r.Trace}, r.Vals...)
			for _, rec := range r.Recs {
				all = append(all, rec.Text)
			}
			return all
		}
		given := append(slices.Clone(in.Args), in.Lines...)
		for _, fn := range u.Fns {
			given = append(append(given, fn.Name), fn.Vars...)
			for _, n := range fn.Nodes {
				given = append(given, n.Str)
			}
		}
		got := texts(first)
		for k := range first.Recs {
			v, w := impl.Look(u, in, k), impl.Look(u, in, k)
			if !sameView(v, w) {
				t.Errorf("%d: %+v, then %+v", k, v, w)
			}
			for _, c := range v.Calls {
				for _, s := range c.Vars {
					got = append(got, s.Name, s.Text)
				}
			}
		}
		for _, a := range got {
			for _, b := range given {
				if sharesText(a, b) {
					t.Errorf("%q is the argument's", a)
				}
			}
		}
		for i := range first.Recs[:cap(first.Recs)] {
			first.Recs[:cap(first.Recs)][i] = impl.Rec{Kind: -1}
		}
		if !sameReport(again, impl.Run(u, in)) {
			t.Error("reports share their records")
		}
	}
}
