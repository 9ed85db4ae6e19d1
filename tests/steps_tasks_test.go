package tests

import (
	"fmt"
	"runtime"
	"strings"
	"testing"
	"time"

	"loop.example/heddle/impl"
)

// P5: resume and yield: what each gives, and the records of the turns.
func TestStepTurns(t *testing.T) {
	checkSteps(t, `proto main
line 1; fn 0 f; one 1 task r0; do 2 resume r1 1 2; const 3 print; call 3 3 ~2; do 2 resume r1 3; const 3 print; call 3 3 ~2; do 2 resume r1; return 2
proto f line=9 params=2
line 5; do 2 yield r0 r1; const 3 print; call 3 3 ~2; do 2 yield; const 3 print; call 3 3 ~2; give 2 "end" 7`,
		"line 0.0:1", "turn 1.0:0 resume", "call 1.1:9 f", "line 1.1:5", "turn 0.0:0 yield", "print 0.0:1 true 1 2", "turn 1.0:0 resume", "print 1.1:5 3",
		"turn 0.0:0 yield", "print 0.0:1 true", "turn 1.0:0 resume", "print 1.1:5", "back 1.1:0", "turn 0.0:0 done", "gives true end 7")
	// A task in a task, numbered in the order of their making.
	checkSteps(t, `proto main
fn 0 f; one 1 task r0; do 2 resume r1; do 3 resume r1; return 3
proto f
fn 0 g; one 1 task r0; one 2 task r0; do 3 resume r2; do 4 yield 1; do 3 resume r2; return 3
proto g
do 0 yield; give 0 "g"`,
		"turn 1.0:0 resume", "call 1.1:0 f", "turn 3.0:0 resume", "call 3.2:0 g", "turn 1.0:0 yield", "turn 0.0:0 yield", "turn 1.0:0 resume", "turn 3.0:0 resume", "back 3.2:0",
		"turn 1.0:0 done", "back 1.1:0", "turn 0.0:0 done", "gives true true g")
	// A yield may stand anywhere: in a fn that is called, as a handler, as what is gone through, in a defer.
	checkGives(t, `proto main
fn 0 f; one 1 task r0; n: do 2 resume r1 "in"; const 3 print; call 3 3 ~2; drop 3; one 2 status r1; const 3 "done"; binary 2 ne ~2 ~3; if ~2 @n; give 2
proto f
table 0; table 1; const 2 "index"; const 3 yield; raw 1 2 3; const 2 "add"; raw 1 2 3; one 4 setkind r0 ~1; const 1 "k"; index 3 0 1; say 4 r3; binary 3 add 0 1; say 4 r3
drop 1; drop 2; drop 3; drop 4; drop 5; fn 1 g; do 2 r1; const 3 print; call 3 3 ~2; const 1 yield; drop 2; drop 3; each 1; eachnext 1 @e 3; say 4 "turn"; drop 3; e: scope 4; later 4 yield "defer"; leave; give 4 "end"
proto g
do 0 yield "g"; return 0`,
		"true table k", "in", "true table k", "in", "true g", "in", "true", "turn", "true defer", "true end")
}

// P5: the state of a task, in each of them; what may be resumed and given up then.
func TestStepTaskStates(t *testing.T) {
	checkGives(t, `proto main
const 0 nil; box 0 ~0; fn 1 f; one 2 task r1; put 0 2; one 3 status r2; do 4 resume r2; one 4 status r2; do 5 resume r2; one 5 status r2
one 6 task r1; do 7 giveup r6; one 7 status r6; give 8 r3 r4 r5 r7
proto f line=1 ups=r0
upget 0 0; one 1 status r0; say 2 r1; fn 1 g; one 2 task r1; do 3 resume r2; do 3 yield; give 4
proto g ups=u0
upget 0 0; one 1 status r0; say 2 r1; try @a 1; do 1 resume r0; endtry; give 1; a: drop 1; drop 2; try @b 1; do 1 giveup r0; endtry; give 1; b: say 3 "both"; give 3`,
		"running", "busy", "both", "gives new waiting done done")
	// The text's own task cannot be got at; one that runs, is busy or done is ErrTask.
	for do, code := range map[string]int{
		"fn 0 f; one 1 task r0; do 2 resume r1; do 3 resume r1":  impl.ErrTask,
		"fn 0 f; one 1 task r0; do 2 resume r1; do 3 giveup r1":  impl.ErrTask,
		"fn 0 f; one 1 task r0; do 2 giveup r1; do 3 resume r1":  impl.ErrTask,
		"fn 0 f; one 1 task r0; do 2 giveup r1; do 3 giveup r1":  impl.ErrTask,
		"fn 0 f; one 1 task r0; do 2 giveup r1; one 3 status r1": 0,
		"fn 0 f; do 1 resume r0":                                 impl.ErrArgs,
		"fn 0 f; do 1 giveup r0":                                 impl.ErrArgs,
		"fn 0 f; do 1 status r0":                                 impl.ErrArgs,
		"fn 0 f; do 1 yield":                                     impl.ErrTask,
		"fn 0 f; do 1 yield r0 1":                                impl.ErrTask,
	} {
		text := "proto main regs=9\nline 4; " + do + "; give 6\nproto f\ngive 0"
		want := "gives"
		if code > 0 {
			want = fmt.Sprintf("error %d at main:4", code)
		}
		told := stepsTold(ranCode(t, text, stepsOf(text), plenty()))
		if told[len(told)-1] != want {
			t.Errorf("%s: %v", text, told)
		}
	}
}

// P5: an error that leaves a task: its value and its trace, which has the calls of that task alone.
func TestStepTaskErrors(t *testing.T) {
	checkSteps(t, `proto main
line 1; fn 0 f; one 1 task r0; do 2 resume r1; one 3 status r1; add 2 3; return 2
proto f line=9
fn 0 g; line 5; do 1 r0; return 1
proto g
scope 0; line 6; later 0 print "left"; line 7; const 0 "x"; throw 0`,
		"line 0.0:1", "turn 1.0:0 resume", "call 1.1:9 f", "line 1.1:5", "call 1.2:0 g", "line 1.2:6", "line 1.2:7", "throw 1.2:7 x", "print 1.2:6 left", "back 1.2:0 error", "back 1.1:0 error",
		"turn 0.0:0 error", "gives false x g:7 f:5 done")
	// What catches around the resume catches nothing of it.
	checkGives(t, "proto main\ntry @h 0; fn 0 f; one 1 task r0; do 2 resume r1; return 2; h: give 2 \"never\"\nproto f\nconst 0 nil; throw 0", "gives false nil f:0")
	// A task's fn is called with its arguments, whatever they are.
	checkGives(t, "proto main\nfn 0 f; one 1 task r0; do 2 resume r1 1 nil 3; return 2\nproto f rest\nreturn 0", "gives true 1 nil 3")
}

// P5: giveup: of a new task; of a waiting one its guards and calls are left from the inside.
func TestStepGiveUp(t *testing.T) {
	checkSteps(t, "proto main\nfn 0 f; one 1 task r0; do 2 giveup r1 1 2; return 2\nproto f\nsay 0 1; give 0", "gives true")
	checkSteps(t, `proto main
line 1; fn 0 f; one 1 task r0; do 2 resume r1; do 2 giveup r1 7; one 3 status r1; add 2 3; return 2
proto f line=9
scope 0; line 2; later 0 print "f"; try @h 0; fn 0 g; line 3; do 1 r0; return 1; h: say 2 "never"; give 2
proto g line=8
try @h 0; scope 0; line 4; later 0 print "g1"; line 5; later 0 print "g2"; do 0 yield; return 0; h: say 2 "never"; give 2`,
		"line 0.0:1", "turn 1.0:0 resume", "call 1.1:9 f", "line 1.1:2", "line 1.1:3", "call 1.2:8 g", "line 1.2:4", "line 1.2:5", "turn 0.0:0 yield", "turn 1.0:0 giveup",
		"print 1.2:5 g2", "print 1.2:4 g1", "back 1.2:0 gone", "print 1.1:2 f", "back 1.1:0 gone", "turn 0.0:0 gone", "gives true done")
	// Errors that leave defers are dropped; the last one is told. They are thrown where they are, and what a defer catches is its own.
	checkSteps(t, `proto main
fn 0 f; one 1 task r0; do 2 resume r1; do 2 giveup r1; return 2
proto f
scope 0; at 1; later 0 7; at 2; fn 0 g; later 1 r0 "y"; at 3; do 0 yield; return 0
proto g params=1
try @h 1; const 1 "z"; throw 1; h: at 4; throw 0`,
		"turn 1.0:0 resume", "call 1.1:0 f", "turn 0.0:0 yield", "turn 1.0:0 giveup", "call 1.2:0 g", "throw 1.2:0 z", "catch 1.2:0 z", "throw 1.2:4 y", "back 1.2:0 error",
		"throw 1.1:1 error 6", "back 1.1:0 gone", "turn 0.0:0 gone", "gives false table f:1")
	checkGives(t, `proto main
fn 0 f; one 1 task r0; do 2 resume r1; do 2 giveup r1; return 2
proto f
scope 0; later 0 print "last"; scope 0; later 0 print "still"; fn 0 g; later 1 r0 "y"; do 1 yield; return 1
proto g params=1
throw 0`, "still", "last", "gives false y g:0 f:0")
}

// P5: a yield in a task that is being given up is ErrTask, wherever it stands; resuming others is not.
func TestStepYieldWhileGivenUp(t *testing.T) {
	checkGives(t, `proto main
fn 0 f; one 1 task r0; do 2 resume r1; do 2 giveup r1; return 2
proto f
scope 0; fn 0 g; later 1 r0; later 1 yield 1; fn 1 h; one 2 task r1; later 3 resume r2; do 3 yield; return 3
proto g
try @h 0; do 0 yield 2; return 0; h: const 2 "code"; index 2 0 2; say 3 "caught" r2; give 3
proto h
say 0 "other"; do 0 yield; return 0`, "other", "caught 10", "gives false table f:0")
	// It is as it was for another task that gives up in its turn.
	checkGives(t, `proto main
fn 0 f; one 1 task r0; do 2 resume r1; do 2 resume r1; return 2
proto f
fn 0 g; one 1 task r0; do 2 resume r1; do 2 giveup r1; do 3 yield "fine"; join 2 3; return 2
proto g
scope 0; later 0 print "gone"; do 1 yield; return 1`, "gone", "gives true true")
}

// P5: an error, a return or an ILeave that was on its way in a task is let go of when it is given up; the defers that are left are run.
func TestStepGiveUpOnTheWay(t *testing.T) {
	for how, thrown := range map[string]string{"const 1 \"x\"; throw 1": "throw 1.1:7 x", "give 1 \"v\"": "", "leave; say 1 \"never\"; give 1": ""} {
		text := `proto main
fn 0 f; one 1 task r0; do 2 resume r1; const 3 print; call 3 3 2; do 2 giveup r1; return 2
proto f
try @h 0; scope 0; at 1; later 0 print "out"; scope 0; at 2; later 0 7; at 3; later 0 print "a"; at 4; later 0 yield "here"; at 5; later 0 print "b"; at 7; ` + how + `; h: say 2 "never"; give 2`
		want := []string{"turn 1.0:0 resume", "call 1.1:0 f"}
		if thrown != "" {
			want = append(want, thrown)
		}
		want = append(want, "print 1.1:5 b", "turn 0.0:0 yield", "print 0.0:0 true here", "turn 1.0:0 giveup", "print 1.1:3 a", "throw 1.1:2 error 6", "print 1.1:1 out", "back 1.1:0 gone",
			"turn 0.0:0 gone", "gives false table f:2")
		checkSteps(t, text, want...)
		// It goes on as it was when it is resumed instead.
		text = strings.Replace(text, "do 2 giveup r1", "do 2 resume r1", 1)
		if r := ranCode(t, text, stepsOf(text), plenty()); r.Code != 0 || r.Vals[0] != "true" {
			t.Errorf("%s: %+v", text, r)
		}
	}
}

// P5: MaxTasks tasks can be made, the text not counted; what has ended counts still.
func TestStepManyTasks(t *testing.T) {
	text := func(count int) string {
		return fmt.Sprintf("proto main\nfn 0 f; const 1 1; const 2 %d; const 3 1; for 1; t: fortest 1 @e; tick; one 4 task r0; do 5 resume r4; drop 4; drop 5; fornext 1 @t; e: give 4 \"all\"\nproto f\ndo 0 yield; give 1", count)
	}
	for count, want := range map[int]string{100: "gives all", 101: "error 10 at main:0"} {
		checkShown(t, fmt.Sprint(count), saysOf(ranCode(t, fmt.Sprint(count), stepsOf(text(count)), plenty())), []string{want})
	}
}

// P5: what waits when the text's own call ends is never heard of again, and leaves no goroutine behind, however the run ends.
func TestStepNoGoroutineStays(t *testing.T) {
	before := runtime.NumGoroutine()
	for _, end := range []string{"give 5", "const 5 1; throw 5", "r: tick; jump @r", "do 5 7; give 6"} {
		text := "proto main\nfn 0 f; const 1 1; const 2 9; const 3 1; for 1; t: fortest 1 @e; tick; one 4 task r0; do 5 resume r4; drop 4; drop 5; fornext 1 @t; e: " + end +
			"\nproto f\nscope 0; later 0 print \"never\"; try @h 0; fn 0 g; one 1 task r0; do 2 resume r1; do 3 yield; give 4; h: say 2 \"never\"; give 2\nproto g\nscope 0; later 0 print \"never\"; do 0 yield; return 0"
		c := stepsOf(text)
		r := ranCode(t, text, c, plenty())
		for _, rec := range r.Recs {
			if rec.Text == "never" {
				t.Errorf("%s: %+v", text, rec)
			}
		}
		for k := 0; k < len(r.Recs); k += 3 {
			impl.LookCode(c, plenty(), k)
		}
	}
	for range 100 {
		if runtime.NumGoroutine() <= before {
			return
		}
		time.Sleep(time.Millisecond)
	}
	t.Errorf("%d goroutines, %d before", runtime.NumGoroutine(), before)
}
