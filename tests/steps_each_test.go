package tests

import (
	"testing"

	"loop.example/heddle/impl"
)

// P5: going through a table: its pairs in the order of their coming, those that come on the way too, those that are gone not.
func TestStepEachTable(t *testing.T) {
	through := `; move 4 0; each 4; n: eachnext 4 @e 6; const 7 print; call 7 7 6; drop 7; `
	const end = `; drop 6; jump @n; e: give 6 "over"`
	checkGives(t, "table 0"+through+"tick"+end, "gives over")
	filled := `table 0; const 1 "a"; const 2 1; raw 0 1 2; const 1 "b"; const 2 2; raw 0 1 2; const 1 "c"; const 2 3; raw 0 1 2; drop 1; drop 2`
	checkGives(t, filled+through+"tick"+end, "a 1", "b 2", "c 3", "gives over")
	// What comes while it is gone through, once; what goes; what is taken out and comes again.
	checkGives(t, filled+through+`const 7 "d"; const 8 4; raw 0 7 8; drop 7; drop 8`+end, "a 1", "b 2", "c 3", "d 4", "gives over")
	checkGives(t, filled+through+`const 7 "b"; const 8 nil; raw 0 7 8; drop 7; drop 8`+end, "a 1", "c 3", "gives over")
	checkGives(t, filled+through+`pick 7 6 0; const 8 nil; raw 0 7 8; drop 7; drop 8`+end, "a 1", "b 2", "c 3", "gives over")
	checkGives(t, filled+through+`pick 7 6 1; const 8 1; binary 7 ne ~7 ~8; if ~7 @k; const 7 "b"; const 8 nil; raw 0 7 8; const 8 9; raw 0 7 8; drop 7; drop 8; k: tick`+end,
		"a 1", "c 3", "b 9", "gives over")
	checkGives(t, filled+through+`const 7 "c"; const 8 7; raw 0 7 8; drop 7; drop 8`+end, "a 1", "b 2", "c 7", "gives over")
	// The table is another one by now, and so is the place.
	checkGives(t, filled+through+`table 4`+end, "a 1", "gives over")
	checkGives(t, filled+through+`pick 5 6 1`+end, "a 1", "b 2", "c 3", "gives over")
}

// P5: A + 1 as any int: the pairs behind that turn; ErrIndex unless A is a table.
func TestStepEachNextByHand(t *testing.T) {
	filled := `table 0; const 1 "a"; const 2 1; raw 0 1 2; const 1 "b"; const 2 2; raw 0 1 2; drop 2; `
	for turn, want := range map[string]string{"0": "gives a 1 1", "1": "gives b 2 2", "2": "gives over 2", "-5": "gives a 1 1", "-9223372036854775808": "gives a 1 1",
		"9223372036854775807": "gives over 9223372036854775807", "99": "gives over 99"} {
		checkGives(t, filled+"const 1 "+turn+`; eachnext 0 @e 2; add 2 1; return 2; e: give 2 "over" r1`, want)
	}
	// C comes last: it may be A + 1 or A.
	checkGives(t, filled+`const 1 0; eachnext 0 @e 1; return 1; e: give 2 "over"`, "gives a 1")
	checkGives(t, filled+`const 1 0; eachnext 0 @e 0; add 0 1; return 0; e: give 2 "over"`, "gives a 1 1")
	// At the end C is as it was.
	checkGives(t, `table 0; const 1 0; list 2; const 3 7; add 2 3; drop 3; eachnext 0 @e 2; return 2; e: return 2`, "gives 7")
	for _, what := range []string{"nil", "7", `"s"`, "print"} {
		checkStepCode(t, "const 0 "+what+"; const 1 0; eachnext 0 @e 2; drop 2; e: tick", impl.ErrIndex)
	}
}

// P5: going through a fn or a builtin: it is called without arguments, until the first value is nil.
func TestStepEachCalled(t *testing.T) {
	counting := `proto main
const 0 1; box 0 ~0; fn 1 f; each 1; n: eachnext 1 @e 3; const 4 print; call 4 ~4 3; drop 4; drop 3; jump @n; e: give 3 "over"
proto f ups=r0 rest
`
	checkGives(t, counting+`upget 1 0; const 2 1; binary 2 add 1 ~2; upput 0 2; const 3 3; binary 3 gt 2 ~3; if ~3 @e; give 3 r1 "x" r1; e: give 3 nil 1`,
		"1 x 1", "2 x 2", "gives over")
	checkGives(t, counting+`give 1`, "gives over")
	checkGives(t, counting+`upget 1 0; const 2 nil; upput 0 2; const 2 nil; binary 2 eq 1 ~2; if ~2 @e; give 2 false nil; e: give 2`, "false nil", "gives over")
	in := plenty()
	in.Lines = []string{"one", "two"}
	text := `const 0 read; each 0; n: eachnext 0 @e 2; const 3 print; call 3 ~3 2; drop 3; drop 2; jump @n; e: give 2 r1`
	checkShown(t, text, saysOf(ranCode(t, text, stepsOf(text), in)), []string{"one", "two", "gives nil"})
	// A + 1 as anything but an int: A is called, whatever it is.
	for _, how := range []string{"nil", "0.0", `"s"`, "true", "print"} {
		text := "const 0 read; const 1 " + how + "; eachnext 0 @e 2; return 2; e: give 2"
		checkShown(t, text, saysOf(ranCode(t, text, stepsOf(text), in)), []string{"gives one"})
	}
	checkStepCode(t, "table 0; const 1 nil; eachnext 0 @e 2; drop 2; e: tick", impl.ErrCall)
	checkGives(t, `table 0; table 1; const 2 "call"; const 3 type; raw 1 2 3; one 2 setkind r0 r1; const 1 nil; drop 3; drop 2; eachnext 0 @e 2; return 2; e: give 2`, "gives table")
	// What its fn throws.
	checkGives(t, counting+"const 1 5; throw 1", "5 at f:0 main:0")
}

// P5: the handler `each`: what it gives first is gone through in the table's place, and must be a fn or a builtin.
func TestStepEachHandlers(t *testing.T) {
	in := plenty()
	in.Lines = []string{"one", "two"}
	each := "move 1 ~0; each 1; n: eachnext 1 @e 3; const 4 print; call 4 ~4 3; drop 4; drop 3; jump @n; e: give 3 r1 r2"
	text := kindedSteps("each", "h") + each + "\nproto h rest\nconst 1 print; call 2 1 0; give 3 read 7"
	checkShown(t, text, saysOf(ranCode(t, text, stepsOf(text), in)), []string{"table", "one", "two", "gives builtin nil"})
	text = kindedSteps("each", "h") + each + "\nproto h\nfn 0 g; give 1 r0\nproto g\ngive 0"
	checkShown(t, text, saysOf(ranCode(t, text, stepsOf(text), in)), []string{"gives fn nil"})
	for _, gives := range []string{"", "nil", "7", `"s"`} {
		checkGives(t, kindedSteps("each", "h")+each+"\nproto h\ngive 0 "+gives, "error 1 at main:1")
	}
	checkGives(t, kindedSteps("each", "h")+each+"\nproto h params=1\ngive 1 r0", "error 1 at main:1")
	checkGives(t, kindedSteps("each", "type")+each, "error 1 at main:1")
	checkGives(t, kindedSteps("each", "7")+each, "error 6 at main:1")
	for _, what := range []string{"nil", "7", `"s"`, "true"} {
		checkStepCode(t, "const 0 "+what+"; each 0", impl.ErrType)
	}
	// Without it, a kind changes nothing.
	checkGives(t, kindedSteps("index", "print")+each, "gives table 0")
}

// P5: IEach holds nothing in A while its handler is called, and what that gave when it is no fn.
func TestStepEachHolds(t *testing.T) {
	checkStepsLook(t,
		"proto main\ntable 1; const 2 \"each\"; fn 3 h; raw 1 2 3; table 3; one 4 setkind r3 ~1; drop 2; move 4 ~3; a: each 4; give 6\nvar v 4\nvar w 5\nproto h params=1 line=8\nsay 1; give 1 7",
		"call 0.1:8 h / task 0, 1:0, 0:0",
		"print 0.1:0 / task 0, 1:0, 0:0",
		"back 0.1:0 / task 0, 1:0, 0:0",
		"throw 0.0:0 error 1 / task 0, 0:0 v=7")
}
