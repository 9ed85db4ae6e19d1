package tests

import (
	"fmt"
	"strings"
	"testing"

	"loop.example/heddle/impl"
)

// P5: RecCall and RecBack with their Fn, Line and Text; the line at hand of the caller stays, that of a new call is 0.
func TestStepCallRecords(t *testing.T) {
	checkSteps(t, `proto main line=5
line 1; fn 0 f; do 1 r0; say 2 1; return 1
proto f line=70
say 0 2; line 8; fn 0 _; do 1 r0; say 2 3; return 1
proto _ line=0
line 9; give 0 "x"`,
		"line 0.0:1", "call 0.1:70 f", "print 0.1:0 2", "line 0.1:8", "call 0.2:0", "line 0.2:9", "back 0.2:0", "print 0.1:8 3", "back 0.1:0", "print 0.0:1 1", "gives x")
	checkSteps(t, "proto main\nline 1; fn 0 f; do 1 r0; return 1\nproto f line=7\nline 2; const 0 5; throw 0",
		"line 0.0:1", "call 0.1:7 f", "line 0.1:2", "throw 0.1:2 5", "back 0.1:0 error", "5 at f:2 main:1")
	// What is called is there with the fn that is called: two fns of one proto have their own boxes.
	checkGives(t, `proto main
fn 0 f; do 1 r0 1; first 1 ~1; do 2 r0 2; first 2 ~2; do 3 r1; first 3 ~3; do 4 r2; first 4 ~4; do 5 r1; first 5 ~5; give 6 r3 r4 r5
proto f params=1
box 0 ~0; fn 1 g; give 2 r1
proto g ups=r0
upget 0 0; const 1 10; binary 1 add 0 ~1; upput 0 ~1; give 1 r0`, "gives 1 2 11")
}

// P5: Depth open calls are enough, one more is ErrDepth; the text is one of them, what has ended is none.
func TestStepDepth(t *testing.T) {
	text := `proto main
const 0 nil; box 0 ~0; fn 1 f; put 0 1; do 2 r1; drop 2; do 2 r1; return 2
proto f line=3 ups=r0
upget 0 0; do 1 r0; give 2`
	for depth := 1; depth <= 60; depth += 7 {
		in := plenty()
		in.Depth = depth
		r := ranCode(t, text, stepsOf(text), in)
		calls := 0
		for _, rec := range r.Recs {
			if rec.Kind == impl.RecCall {
				calls++
			}
		}
		trace := strings.TrimSpace(strings.Repeat("f:0 ", depth-1) + "main:0")
		if r.Code != 1 || r.Error != "error 8" || calls != depth-1 || r.Trace != trace || r.Ticks != depth {
			t.Errorf("depth %d: %d calls, %+v", depth, calls, withoutRecs(r))
		}
	}
	// Calls that have ended count no more, however they ended; a builtin is no open call.
	checkSteps := func(text string, depth int, want ...string) {
		t.Helper()
		in := plenty()
		in.Depth = depth
		checkShown(t, text, saysOf(ranCode(t, text, stepsOf(text), in)), want)
	}
	ends := "proto main\nfn 0 f; do 1 r0; drop 1; try @h 1; do 1 r0 1; drop 1; endtry; give 1; h: do 3 r0; do 4 print 5; return 4\nproto f params=1\nif 0 @t; give 1; t: throw 0"
	checkSteps(ends, 2, "5")
	checkSteps(ends, 1, "error 8 at main:0")
	// Over tasks that wait: main, f in a task, g in a task of that one.
	tasks := `proto main
fn 0 f; one 1 task r0; do 2 resume r1; return 2
proto f
fn 0 g; one 1 task r0; do 2 resume r1; return 2
proto g
fn 0 h; do 1 r0; return 1
proto h
give 0 "deep"`
	checkSteps(tasks, 4, "gives true true deep")
	checkSteps(tasks, 3, "gives true false table g:0")
	checkSteps(tasks, 2, "gives true false table ")
	checkSteps(tasks, 1, "gives false table ")
	// A task that waits for nobody's end is not counted: the one that was left by a yield.
	checkSteps(`proto main
fn 0 f; one 1 task r0; do 2 resume r1; drop 2; fn 2 g; do 3 r2; return 3
proto f
fn 0 h; do 1 r0; return 1
proto g
give 0 "fine"
proto h
do 0 yield; return 0`, 3, "gives fine")
}

// P5: ErrDepth in a new task is thrown in that task, in which no call is open.
func TestStepDepthOfATask(t *testing.T) {
	in := plenty()
	in.Depth = 1
	text := "proto main\nline 6; fn 0 f; one 1 task r0; do 2 resume r1; pick 3 2 1; const 4 \"line\"; index 3 ~3 ~4; pick 4 2 2; give 5 r3 r4\nproto f\ngive 0"
	checkShown(t, text, stepsTold(ranCode(t, text, stepsOf(text), in)),
		[]string{"line 0.0:6", "turn 1.0:0 resume", "throw 1.0:0 error 8", "turn 0.0:0 error", "gives 0"})
}

// chained: a table in register 0 with so many handlers one behind the other, the last of which is what register 1 holds.
func chained(handler string, count int) string {
	text := fmt.Sprintf("const 2 %q; ", handler)
	for range count {
		text += "table 3; table 4; raw 4 2 ~1; one 5 setkind r3 r4; drop 4; drop 5; move 1 ~3; "
	}
	return text + "move 0 ~1; drop 2; "
}

// P5: a table with a handler `call` is called with itself ahead of the arguments; MaxChain of them are enough.
func TestStepCallHandlers(t *testing.T) {
	for _, count := range []int{1, 2, 19, 20} {
		r := ranCode(t, "chain", stepsOf("const 1 print; "+chained("call", count)+"line 3; do 1 r0 5; return 1"), plenty())
		if r.Code != 0 || len(r.Recs) != 2 || r.Recs[1].Text != strings.Repeat("table ", count)+"5" || r.Ticks != count+1+count+1 {
			t.Errorf("%d: %+v", count, r)
		}
	}
	r := ranCode(t, "chain", stepsOf("const 1 print; "+chained("call", 21)+"line 3; do 1 r0 5; return 1"), plenty())
	if r.Error != "error 11" || r.Trace != "main:3" || r.Ticks != 21+1+21 {
		t.Errorf("%+v", r)
	}
	// Behind MaxChain of them comes something that cannot be called.
	for what, count := range map[string]int{"7": 20, `"x"`: 1, "true": 3} {
		r := ranCode(t, what, stepsOf("const 1 "+what+"; "+chained("call", count)+"line 3; do 1 r0; return 1"), plenty())
		if r.Error != "error 6" || r.Ticks != count+1+count+1 {
			t.Errorf("%s: %+v", what, r)
		}
	}
	// A table that is its own kind's handler `call` goes round.
	r = ranCode(t, "ring", stepsOf(`table 0; table 1; const 2 "call"; raw 1 2 0; one 2 setkind r0 r1; do 3 r0; return 3`), plenty())
	if r.Error != "error 11" || r.Ticks != 1+21 {
		t.Errorf("%+v", r)
	}
	// The table comes to the fn ahead of the others; the last handler's table is the first.
	checkGives(t, "proto main\nfn 1 f; "+chained("call", 2)+"do 1 r0 5 6; return 1\nproto f params=2 rest\nconst 3 \"call\"; one 4 kind r0; index 4 ~4 3; one 5 kind r1; index 5 ~5 3; one 6 type r4; one 7 type r5; binary 8 eq 5 0; join 2 2; list 9; add 9 6; add 9 7; add 9 8; join 9 2; return 9",
		"gives fn table true 5 6 5 6")
}

// P5: what is no fn, no builtin and no table with a handler cannot be called: ErrCall, behind its tick.
func TestStepErrCall(t *testing.T) {
	for _, what := range []string{"nil", "true", "7", "1.5", `"print"`} {
		checkSteps(t, "line 2; do 0 "+what+" 1; return 0", "line 0.0:2", "throw 0.0:2 error 6", "error 6 at main:2")
	}
	for _, make := range []string{"table 0", "table 0; table 1; one 2 setkind r0 r1", "proto main\nfn 4 f; one 0 task r4"} {
		text := make + "; line 2; do 3 r0; return 3"
		if strings.HasPrefix(make, "proto") {
			text += "\nproto f\ngive 0"
		}
		checkSteps(t, text, "line 0.0:2", "throw 0.0:2 error 6", "error 6 at main:2")
	}
	r := ranCode(t, "its tick", stepsOf("const 0 7; list 1; call 0 0 1; return 0"), impl.Input{Ticks: 0, Depth: 1})
	if r.Code != 2 || len(r.Recs) > 0 {
		t.Errorf("%+v", r)
	}
}
