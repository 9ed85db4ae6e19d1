package tests

import (
	"fmt"
	"strings"
	"testing"

	"loop.example/heddle/impl"
)

// P5: what the machine throws is a table with `code` and `line`, in this order, and nothing else.
func TestStepErrorTables(t *testing.T) {
	checkSteps(t, `line 12; const 0 nil; at 34; try @h 1; at 56; unary 1 neg 0; endtry; give 1
h: drop 2; each 1; n: eachnext 1 @e 3; const 4 print; call 4 ~4 ~3; drop 4; jump @n; e: one 3 kind r1; give 4 r3`,
		"line 0.0:12", "throw 0.0:56 error 1", "catch 0.0:34 error 1", "print 0.0:34 code 1", "print 0.0:34 line 56", "gives nil")
	// Each error is a table of its own.
	checkGives(t, `const 0 nil; try @a 1; unary 1 neg 0; endtry; give 1; a: drop 2; try @b 2; unary 2 neg 0; endtry; give 2
b: drop 3; const 3 "code"; const 4 "x"; raw 1 3 4; index 5 2 3; binary 6 eq 1 2; give 7 r5 r6`, "gives 1 false")
}

// P5: how errors are told, at each moment anew.
func TestStepErrorsTold(t *testing.T) {
	for value, want := range map[string]string{"nil": "nil", "true": "true", "-7": "-7", "1.5": "3p-1", `"text"`: "text", `""`: "", "print": "builtin"} {
		checkSteps(t, "line 3; const 0 "+value+"; throw 0", "line 0.0:3", strings.TrimSpace("throw 0.0:3 "+want), want+" at main:3")
	}
	for code, want := range map[string]string{"7": "error 7", "-1": "error -1", "0": "error 0", "7.0": "table", `"7"`: "table", "nil": "table", "true": "table"} {
		checkSteps(t, `table 0; const 1 "code"; const 2 `+code+`; raw 0 ~1 ~2; throw ~0`, "throw 0.0:0 "+want, want+" at main:0")
	}
	// A code of its kind is none of its own.
	checkSteps(t, `table 0; table 1; const 2 "index"; raw 1 2 1; const 2 "code"; const 3 5; raw 1 2 3; one 2 setkind r0 r1; throw 0`, "throw 0.0:0 table", "table at main:0")
	checkSteps(t, "proto main\nfn 0 f; throw 0\nproto f\ngive 0", "throw 0.0:0 fn", "fn at main:0")
	// The table changes on its way.
	checkSteps(t, `table 0; scope 1; later 1 rawset r0 "code"; try @h 1; scope 1; later 1 rawset r0 "code" 5; throw 0; h: throw 1`,
		"throw 0.0:0 table", "catch 0.0:0 error 5", "throw 0.0:0 error 5", "table at main:0")
}

// P5: the trace: the innermost first, with names and without, with the line at hand of each call.
func TestStepTraces(t *testing.T) {
	checkSteps(t, `proto main
line 1; fn 0 _; at 2; do 1 r0; return 1
proto _
line 3; fn 0 g; do 1 r0; return 1
proto g
fn 0 h; at 4; do 1 r0; at 5; return 1
proto h
try @h 0; const 0 "x"; throw 0; h: say 2 r0 r1; at 9; throw 0`,
		"line 0.0:1", "call 0.1:0", "line 0.1:3", "call 0.2:0 g", "call 0.3:0 h", "throw 0.3:0 x", "catch 0.3:0 x", "print 0.3:0 x h:0 g:4 fn:3 main:2",
		"throw 0.3:9 x", "back 0.3:0 error", "back 0.2:0 error", "back 0.1:0 error", "x at h:9 g:4 fn:3 main:2")
	// It is made when the error is thrown, and stays as it was.
	checkGives(t, "proto main\nat 7; try @h 0; fn 0 f; do 1 r0; endtry; give 1; h: at 8; give 2 r1\nproto f\nscope 0; at 3; later 0 print; at 4; const 0 1; throw 0",
		"", "gives f:4 main:7")
}

// P5: a guard that catches: registers below its Keep stay, those above hold nothing; the line at hand is that of its ITry again.
func TestStepCatches(t *testing.T) {
	checkSteps(t, `line 1; const 0 "kept"; const 1 "lost"; const 2 "lost"; at 2; try @h 1; line 3; const 3 "lost"; const 0 "new"; throw 3
h: say 3 r0 r1 r2; list 3; line 4; give 4`,
		"line 0.0:1", "line 0.0:3", "throw 0.0:3 lost", "catch 0.0:2 lost", "print 0.0:2 new lost main:3", "line 0.0:4", "gives")
	checkSteps(t, "proto main\nline 1; try @h 0; line 2; fn 0 f; do 1 r0; line 3; give 2; h: say 2 r0 r1; give 2\nproto f\nline 4; const 0 5; throw 0",
		"line 0.0:1", "line 0.0:2", "call 0.1:0 f", "line 0.1:4", "throw 0.1:4 5", "back 0.1:0 error", "catch 0.0:1 5", "print 0.0:1 5 f:4 main:2", "gives")
	// The innermost one catches; what its handler throws comes to the next one out; IEndTry takes one off.
	checkSteps(t, `at 1; try @a 0; at 2; try @b 0; at 3; try @c 0; const 0 "x"; throw 0; c: drop 0; drop 1; at 4; endtry; const 0 "y"; throw 0
b: say 2 "b"; give 2; a: binary 0 join 0 0; throw 0`,
		"throw 0.0:3 x", "catch 0.0:3 x", "throw 0.0:4 y", "catch 0.0:1 y", "throw 0.0:1 yy", "yy at main:1")
	checkSteps(t, `at 1; try @a 0; at 2; try @b 0; const 0 "x"; throw 0; b: binary 0 join 0 0; at 5; throw 0; a: give 2 r0 r1`,
		"throw 0.0:2 x", "catch 0.0:2 x", "throw 0.0:5 xx", "catch 0.0:1 xx", "gives xx main:5")
	// In a ring: the guard is put on anew each time.
	checkGives(t, `const 0 1; const 1 3; const 2 1; for 0; t: fortest 0 @e; tick; try @h 3; throw 0; h: say 5 r3; drop 3; drop 4; fornext 0 @t; e: give 3`, "1", "2", "3")
}

// P5: guards with defers that are left by an error: the last one first, each with the line that was kept with it.
func TestStepDefersByError(t *testing.T) {
	checkSteps(t, `line 1; scope 0; line 2; later 0 print "a"; line 3; later 0 print "b" 7; scope 0; at 4; later 0 print "c"; line 5; const 0 "x"; throw 0`,
		"line 0.0:1", "line 0.0:2", "line 0.0:3", "line 0.0:5", "throw 0.0:5 x", "print 0.0:4 c", "print 0.0:3 b 7", "print 0.0:2 a", "x at main:5")
	checkSteps(t, `proto main
line 1; fn 0 f; try @h 1; scope 1; at 2; later 1 print "main"; at 3; do 1 r0; give 2; h: say 3 r1 r2; give 3
proto f line=9
scope 0; line 4; later 0 print "f"; line 5; const 0 nil; unary 0 neg 0; throw 0`,
		"line 0.0:1", "call 0.1:9 f", "line 0.1:4", "line 0.1:5", "throw 0.1:5 error 1", "print 0.1:4 f", "back 0.1:0 error", "print 0.0:2 main", "catch 0.0:1 error 1",
		"print 0.0:1 table f:5 main:3", "gives")
	// A guard without defers is just left. What a defer gives is dropped.
	checkGives(t, `const 0 "x"; try @h 1; scope 1; scope 1; later 1 type 1; scope 1; throw 0; h: give 3 r1`, "gives x")
}

// P5: left by IReturn: defers are run, those that catch are taken off; the list is what it was.
func TestStepDefersByReturn(t *testing.T) {
	checkSteps(t, `proto main
fn 0 f; do 1 r0; return 1
proto f
scope 0; at 1; later 0 print "a"; try @h 0; at 2; scope 0; later 0 print "b"; at 3; later 0 print "c"; at 4; give 0 "v" 5; h: throw 0`,
		"call 0.1:0 f", "print 0.1:3 c", "print 0.1:2 b", "print 0.1:1 a", "back 0.1:0", "gives v 5")
	// Of the text itself too; a list that stays in its register.
	checkSteps(t, `scope 0; at 1; later 0 print "a"; list 0; const 1 5; add 0 1; return 0`, "print 0.0:1 a", "gives 5")
	// What a defer does to the table in the list can be seen.
	checkGives(t, `proto main
fn 0 f; do 1 r0; first 1 ~1; const 2 "k"; index 1 ~1 2; give 3 r1
proto f
scope 0; table 0; later 1 rawset r0 "k" "put"; give 1 ~0`, "gives put")
}

// P5: ILeave runs the defers and takes the guard off; no register changes, the line at hand is as before.
func TestStepLeave(t *testing.T) {
	checkSteps(t, `const 0 "kept"; scope 0; at 1; later 1 print "a"; const 1 "too"; at 2; later 2 print "b"; at 3; leave; say 2 r0 r1; throw 0`,
		"print 0.0:2 b", "print 0.0:1 a", "print 0.0:3 kept too", "throw 0.0:3 kept", "kept at main:3")
	// The one that is around is still on.
	checkSteps(t, `scope 0; at 1; later 0 print "out"; scope 0; at 2; later 0 print "in"; at 3; leave; say 0 "between"; leave; give 0`,
		"print 0.0:2 in", "print 0.0:3 between", "print 0.0:1 out", "gives")
	// Nothing is run twice.
	checkGives(t, `scope 0; later 0 print "a"; leave; scope 0; later 0 print "b"; leave; scope 0; leave; give 0`, "a", "b")
}

// P5: an error that leaves a defer takes the place of what was on its way; the defers that are left are still run.
func TestStepDefersThatThrow(t *testing.T) {
	const throws = "\nproto bad line=9 params=1\nline 8; throw 0"
	// Out of an error's way.
	checkSteps(t, `proto main
fn 0 bad; at 1; try @h 1; scope 1; at 2; later 1 print "a"; at 3; later 1 r0 "y"; at 4; later 1 print "b"; at 5; const 1 "x"; throw 1; h: say 3 r1 r2; give 3`+throws,
		"throw 0.0:5 x", "print 0.0:4 b", "call 0.1:9 bad", "line 0.1:8", "throw 0.1:8 y", "back 0.1:0 error", "print 0.0:2 a", "catch 0.0:1 y", "print 0.0:1 y bad:8 main:3", "gives")
	// Out of a return's: it is not returned, and what catches around it catches.
	checkSteps(t, `proto main
fn 0 f; do 1 r0; say 2 "behind"; return 1
proto f
fn 0 bad; at 1; try @h 1; scope 1; at 2; later 1 print "a"; at 3; later 1 r0 "y"; at 4; give 1 "lost"; h: say 3 r1 r2; give 3 "caught"
proto bad line=9 params=1
line 8; throw 0`,
		"call 0.1:0 f", "call 0.2:9 bad", "line 0.2:8", "throw 0.2:8 y", "back 0.2:0 error", "print 0.1:2 a", "catch 0.1:1 y", "print 0.1:1 y bad:8 f:3 main:0", "back 0.1:0",
		"print 0.0:0 behind", "gives caught")
	// Those that catch inside were taken off by the return already.
	checkSteps(t, `proto main
fn 0 bad; scope 1; later 1 r0 "y"; try @h 1; at 4; give 1 "lost"; h: give 3 "never"`+throws,
		"call 0.1:9 bad", "line 0.1:8", "throw 0.1:8 y", "back 0.1:0 error", "y at bad:8 main:0")
	// Out of an ILeave: the others are run, and it is on its way from there.
	checkSteps(t, `proto main
fn 0 bad; at 1; try @h 1; scope 1; at 2; later 1 print "a"; at 3; later 1 r0 "y"; at 4; later 1 print "b"; at 5; leave; give 1 "never"; h: say 3 r1 r2; give 3`+throws,
		"print 0.0:4 b", "call 0.1:9 bad", "line 0.1:8", "throw 0.1:8 y", "back 0.1:0 error", "print 0.0:2 a", "catch 0.0:1 y", "print 0.0:1 y bad:8 main:3", "gives")
	// Several: the last one counts.
	for how, want := range map[string]string{"const 1 \"x\"; throw 1": "x y2 y1", "give 1": "y2 y1", "leave; give 1": "y2 y1"} {
		text := `proto main
fn 0 bad; scope 1; later 1 r0 "y1"; later 1 r0 "y2"; ` + how + throws
		var thrown []string
		r := ranCode(t, text, stepsOf(text), plenty())
		for _, rec := range r.Recs {
			if rec.Kind == impl.RecThrow {
				thrown = append(thrown, rec.Text)
			}
		}
		checkShown(t, text, thrown, strings.Fields(want))
		if r.Error != "y1" || r.Trace != "bad:8 main:0" {
			t.Errorf("%s: %+v", text, r)
		}
	}
	// What a builtin throws, and what cannot be called, is thrown by the defer itself, with its line.
	checkSteps(t, `at 1; scope 0; at 2; later 0 setkind 1; at 3; later 0 7; at 4; give 0`, "throw 0.0:3 error 6", "throw 0.0:2 error 12", "error 12 at main:2")
	checkSteps(t, `at 1; try @h 0; scope 0; at 2; later 0 setkind 1; at 3; leave; give 0; h: const 3 "line"; index 3 0 3; say 4 r3; give 4`,
		"throw 0.0:2 error 12", "catch 0.0:1 error 12", "print 0.0:1 2", "gives")
	// The line at hand is as before again behind a defer that threw: the next guard's defers and the end tell.
	checkSteps(t, `proto main
fn 0 bad; at 1; try @h 1; at 2; scope 1; at 3; later 1 r0 "y"; at 4; leave; give 1; h: at 5; scope 3; at 6; later 3 r0 "z"; at 7; give 3`+throws,
		"call 0.1:9 bad", "line 0.1:8", "throw 0.1:8 y", "back 0.1:0 error", "catch 0.0:1 y", "call 0.1:9 bad", "line 0.1:8", "throw 0.1:8 z", "back 0.1:0 error", "z at bad:8 main:6")
}

// P5: a defer's own guards are its own: what it catches and defers changes nothing of what is on its way.
func TestStepDefersWithin(t *testing.T) {
	checkSteps(t, `proto main
fn 0 f; at 1; scope 1; at 2; later 1 r0 "arg"; at 3; give 1 "value"
proto f params=1 line=5
scope 1; line 6; later 1 print "inner" r0; try @h 1; const 1 "e"; throw 1; h: say 3 r1; give 3 "dropped"`,
		"call 0.1:5 f", "line 0.1:6", "throw 0.1:6 e", "catch 0.1:6 e", "print 0.1:6 e", "print 0.1:6 inner arg", "back 0.1:0", "gives value")
	// A defer that is a table with a handler `call`; one that is kept twice.
	checkGives(t, `table 0; table 1; const 2 "call"; const 3 print; raw 1 2 3; one 4 setkind r0 ~1; scope 5; later 5 r0 5; later 5 r0 6; leave; give 5`, "table 6", "table 5")
	// A defer put on by a fn that is called by a defer belongs to that fn.
	checkGives(t, "proto main\nfn 0 f; scope 1; later 1 r0; later 1 print \"first\"; give 1\nproto f\nscope 0; later 0 print \"f\"; say 0 \"in\"; leave; say 0 \"out\"; give 0", "first", "in", "f", "out")
	// ErrDepth out of a defer.
	in := plenty()
	in.Depth = 1
	text := "proto main\nfn 0 f; at 3; scope 1; later 1 print \"still\"; later 1 r0; give 1\nproto f\ngive 0"
	checkShown(t, text, stepsTold(ranCode(t, text, stepsOf(text), in)), []string{"throw 0.0:3 error 8", "print 0.0:3 still", "error 8 at main:3"})
}

// P5: MaxGuards in one another, of both sorts, left in each of the ways.
func TestStepManyGuards(t *testing.T) {
	for _, how := range []string{"const 0 \"x\"; throw 0", "give 0 \"v\"", strings.Repeat("leave; endtry; ", 24) + "leave; endtry; give 0 \"v\""} {
		text := ""
		for i := range 25 {
			text += fmt.Sprintf("at %d; try @h 0; scope 0; later 0 print %d; ", i+1, i)
		}
		text += how + "; h: say 2 \"caught\" r0; throw 0"
		var want []string
		for i := 24; i >= 0; i-- {
			want = append(want, fmt.Sprint(i))
			if strings.HasSuffix(how, "throw 0") {
				want = append(want, "caught x")
			}
		}
		end := "gives v"
		if strings.HasSuffix(how, "throw 0") {
			end = "x at main:1"
		}
		checkVerifiedGives(t, text, append(want, end))
	}
}

// checkVerifiedGives: like checkGives; but handlers that meet with other guards around have to be apart, so each try gets its own.
func checkVerifiedGives(t *testing.T, text string, want []string) {
	t.Helper()
	body, handler, _ := strings.Cut(text, "; h: ")
	count := strings.Count(body, "@h")
	for i := range count {
		body = strings.Replace(body, "@h ", fmt.Sprintf("@h%d ", i), 1)
	}
	for i := range count {
		body += fmt.Sprintf("; h%d: %s", i, handler)
	}
	checkGives(t, body, want...)
}
