package tests

import (
	"strings"
	"testing"
)

// P5: what registers hold is reached, of a box what it holds, of a fn what its boxes hold; what was taken or dropped is not.
func TestStepReached(t *testing.T) {
	for do, want := range map[string]string{
		"tick":                                  "0",
		"table 0":                               "1",
		"table 0; move 1 0":                     "1",
		"table 0; move 1 ~0":                    "1",
		"table 0; drop 0":                       "0",
		"table 0; const 0 1":                    "0",
		"table 0; box 0 ~0":                     "1",
		"table 0; box 0 ~0; const 1 1; put 0 1": "0",
		"list 0; table 1; add 0 ~1; table 1; add 0 ~1":                    "2",
		"list 0; table 1; add 0 ~1; first 0 ~0":                           "1",
		"list 0; table 1; add 0 ~1; pick 0 0 1":                           "0",
		`table 0; const 1 "k"; raw 0 1 1`:                                 "2",
		`table 0; table 1; raw 0 1 ~1`:                                    "3",
		`table 0; table 1; const 2 1; raw 0 2 ~1; const 3 nil; raw 0 2 3`: "1",
		`table 0; table 1; raw 1 ~0 1; raw 1 1 1`:                         "4",
		`table 0; table 1; one 2 setkind r0 ~1; drop 2`:                   "2",
		`table 0; table 1; one 2 setkind ~0 r1; drop 2`:                   "1",
		"table 0; raw 0 0 0; drop 0":                                      "0",
		"const 0 7; try @h 1; do 1 r0; endtry; throw 0; h: drop 2":        "3",
		"const 0 7; try @h 1; do 1 r0; endtry; throw 0; h: drop 1":        "0",
	} {
		checkGives(t, "proto main regs=12\n"+do+"; one 8 cells; one 9 collect; give 10 r8 r9", "gives "+want+" "+want)
	}
}

// P5: fns with their Ups, each fn that is called, and tasks: a new one's fn, what a waiting one holds; the text counts nothing.
func TestStepReachedFns(t *testing.T) {
	for text, want := range map[string]string{
		"proto main\nfn 0 f; one 1 cells; give 2 r1\nproto f\ngive 0":                                                                                                                           "1",
		"proto main\ntable 0; box 0 ~0; fn 1 f; drop 0; one 2 cells; give 3 r2\nproto f ups=r0,r0\ngive 0":                                                                                      "4",
		"proto main\ntable 0; box 0 ~0; fn 1 f; drop 0; do 2 r1; return 2\nproto f ups=r0\nupget 0 0; one 1 cells; give 2 r1":                                                                   "3",
		"proto main\ntable 0; box 0 ~0; fn 1 f; drop 0; do 2 ~1; return 2\nproto f ups=r0\none 1 cells; give 2 r1":                                                                              "3",
		"proto main\ntable 0; fn 1 f; do 2 ~1 ~0; return 2\nproto f params=1\ndrop 0; one 1 cells; give 2 r1":                                                                                   "1",
		"proto main\ntable 0; fn 1 f; do 2 ~1 ~0; return 2\nproto f params=1\none 1 cells; give 2 r1":                                                                                           "2",
		"proto main\ntable 0; fn 1 f; do 2 ~1 ~0; return 2\nproto f\none 1 cells; give 2 r1":                                                                                                    "1",
		"proto main\ntable 0; fn 1 f; do 2 ~1 ~0 7; return 2\nproto f rest\none 1 cells; give 2 r1":                                                                                             "2",
		"proto main\nfn 0 f; one 1 task ~0; one 2 cells; give 3 r2\nproto f\ngive 0":                                                                                                            "2",
		"proto main\nfn 0 f; one 1 task ~0; do 2 giveup r1; drop 2; one 2 cells; give 3 r2\nproto f\ngive 0":                                                                                    "1",
		"proto main\nfn 0 f; one 1 task ~0; do 2 resume r1; drop 2; one 2 cells; give 3 r2\nproto f\ntable 0; do 1 yield; return 1":                                                             "3",
		"proto main\nfn 0 f; one 1 task ~0; do 2 resume r1; drop 2; drop 1; one 2 cells; give 3 r2\nproto f\ntable 0; do 1 yield; return 1":                                                     "0",
		"proto main\nfn 0 f; one 1 task ~0; do 2 resume r1; drop 2; do 2 resume r1; drop 2; one 2 cells; give 3 r2\nproto f\ntable 0; do 1 yield; return 1":                                     "1",
		"proto main\ntable 0; fn 1 f; one 2 task ~1; do 3 resume ~2; return 3\nproto f\none 1 cells; give 2 r1":                                                                                 "true 3",
		"proto main\ntable 0; fn 1 f; one 2 task ~1; do 3 resume ~2; return 3\nproto f\ntable 0; fn 1 g; one 2 task ~1; do 3 resume ~2; pick 3 3 1; give 4 r3\nproto g\none 1 cells; give 2 r1": "true 6",
	} {
		checkGives(t, text, "gives "+want)
	}
}

// P5: the arguments of the builtin that is at work are not reached, nor is what an operand held and took.
func TestStepReachedByArguments(t *testing.T) {
	for do, want := range map[string]string{
		"table 0; do 1 cells ~0":                                "gives 0",
		"table 0; do 1 cells r0":                                "gives 1",
		"table 0; do 1 collect r0 7":                            "gives 1",
		"list 0; table 1; add 0 ~1; const 1 cells; call 1 1 0":  "gives 1",
		"list 0; table 1; add 0 ~1; const 1 cells; call 1 1 ~0": "gives 0",
	} {
		checkGives(t, do+"; return 1", want)
	}
	// A handler that is the builtin cells: the operands that stay are there still.
	kind := `table 0; table 1; const 2 "add"; const 3 cells; raw 1 2 3; one 4 setkind r0 r1; drop 4; drop 2; `
	checkGives(t, kind+"binary 2 add 0 0; give 3 r2", "gives 3")
	checkGives(t, kind+"binary 2 add 0 ~0; give 3 r2", "gives 2")
	checkGives(t, kind+"binary 0 add 0 1; give 3 r0", "gives 3")
	// IEach holds nothing in A while its handler is called.
	checkGives(t, "proto main\n"+strings.Replace(strings.Replace(kind, `"add"`, `"each"`, 1), "const 3 cells", "fn 3 f", 1)+"drop 1; drop 3; move 1 ~0; each 1; give 3\nproto f\none 0 cells; say 1 r0; give 1 print", "1")
}

// P5: lists that are being returned, errors that are on their way and what guards have kept are reached; what is run and let go of is not.
func TestStepReachedWhileLeaving(t *testing.T) {
	// One defer is run last, the table that it has kept is reached until then.
	checkGives(t, `proto main
fn 0 tell; scope 1; table 1; later 2 r0 r1; drop 1; later 2 r0; table 1; later 2 r0; give 2 ~1
proto tell
one 0 cells; say 1 r0; give 1`, "3", "3", "2", "gives table")
	checkGives(t, `proto main
fn 0 tell; scope 1; table 1; later 2 r0; throw ~1
proto tell
one 0 cells; say 1 r0; give 1`, "2", "table at main:0")
	// Registers from the Keep on hold nothing while an error or a return runs the defers; with ILeave they do.
	for how, want := range map[string]string{"const 4 7; throw 4": "2", "give 4": "2", "leave; give 4": "4"} {
		text := `proto main
fn 0 tell; table 1; scope 2; table 2; table 3; later 4 r0; ` + how + `
proto tell
one 0 cells; say 1 r0; give 1`
		r := ranCode(t, text, stepsOf(text), plenty())
		checkShown(t, text, saysOf(r)[:1], []string{want})
	}
	// With IKeep, those below the new one too.
	checkGives(t, `proto main
fn 0 tell; table 1; scope 2; table 2; keep 3; table 3; later 4 r0; give 4
proto tell
one 0 cells; say 1 r0; give 1`, "3")
	// An error out of a defer of an ILeave: from then on they hold nothing; the error that it takes the place of is let go of.
	checkGives(t, `proto main
fn 0 tell; table 1; scope 2; table 2; later 3 r0; later 3 7; later 3 r0; leave; give 3
proto tell
one 0 cells; say 1 r0; give 1`, "3", "5", "error 6 at main:0")
	checkGives(t, `proto main
fn 0 tell; scope 1; later 1 r0; later 1 7; later 1 r0; table 1; throw ~1
proto tell
one 0 cells; say 1 r0; give 1`, "2", "4", "error 6 at main:0")
	// A return whose place an error has taken is let go of.
	checkGives(t, `proto main
fn 0 tell; scope 1; later 1 r0; later 1 7; later 1 r0; table 1; give 2 ~1
proto tell
one 0 cells; say 1 r0; give 1`, "2", "4", "error 6 at main:0")
	// The value of the last error that was dropped while a task is given up.
	checkGives(t, `proto main
fn 0 f; one 1 task ~0; do 2 resume r1; drop 2; do 2 giveup r1; pick 3 2 0; give 4 r3
proto f
fn 0 tell; scope 1; later 1 r0; later 1 7; later 1 r0; later 1 7; later 1 r0; do 1 yield; return 1
proto tell
one 0 cells; say 1 r0; give 1`, "3", "6", "6", "gives false")
}

// P5: tables that hold weakly: what is not reached by other ways is not reached by them, and its pairs are taken out.
func TestStepWeakTables(t *testing.T) {
	weak := func(how string) string {
		return `table 0; table 1; const 2 "weak"; const 3 ` + how + `; raw 1 2 3; one 4 setkind r0 ~1; drop 4; drop 2; drop 3; `
	}
	const shown = `; drop 9; one 2 cells; one 3 collect; do 4 rawget r0 "k"; first 4 ~4; move 5 0; list 7; each 5; n: eachnext 5 @e 8; tick; join 7 ~8; jump @n; e: list 8; add 8 2; add 8 3; join 8 7; return 8`
	for x, want := range map[[2]string]string{
		// A table as value, then as key; register 9 is dropped.
		{`"v"`, `table 9; const 1 "k"; raw 0 1 9`}:  "gives 4 3",
		{`"k"`, `table 9; const 1 "k"; raw 0 1 9`}:  "gives 5 5 k table",
		{`"kv"`, `table 9; const 1 "k"; raw 0 1 9`}: "gives 4 3",
		{`"v"`, `table 9; const 1 1; raw 0 9 1`}:    "gives 5 5 table 1",
		{`"k"`, `table 9; const 1 1; raw 0 9 1`}:    "gives 4 3",
		{`"kv"`, `table 9; const 1 1; raw 0 9 1`}:   "gives 4 3",
		{`""`, `table 9; const 1 1; raw 0 9 1`}:     "gives 5 5 table 1",
		{`7`, `table 9; const 1 1; raw 0 9 1`}:      "gives 5 5 table 1",
		{`"xky"`, `table 9; const 1 1; raw 0 9 1`}:  "gives 4 3",
		// What is no thing stays.
		{`"kv"`, `const 9 "a"; const 1 1; raw 0 9 1`}: "gives 4 4 a 1",
		{`"kv"`, `const 9 print; raw 0 9 9`}:          "gives 4 4 builtin builtin",
		// What is reached by other ways stays.
		{`"kv"`, `table 9; move 1 9; raw 0 9 9`}: "gives 5 5 table table",
		// The value beside a weak key: only once the key is reached.
		{`"k"`, `table 9; table 1; raw 0 9 ~1`}:                                                "gives 4 3",
		{`"k"`, `table 9; move 6 9; table 1; raw 0 9 ~1`}:                                      "gives 6 6 table table",
		{`"k"`, `table 9; raw 0 9 9`}:                                                          "gives 4 3",
		{`"k"`, `table 9; table 1; raw 0 9 1; raw 0 1 9; drop 1`}:                              "gives 5 3",
		{`"k"`, `table 9; move 6 9; table 1; raw 0 9 1; const 3 7; raw 0 1 3; drop 1; drop 3`}: "gives 7 7 table table table 7",
	} {
		checkGives(t, weak(x[0])+x[1]+shown, want)
	}
	// A fn and a task are things too.
	for _, make := range []string{"fn 9 f", "fn 8 f; one 9 task ~8"} {
		checkGives(t, "proto main\n"+weak(`"v"`)+make+`; const 1 "k"; raw 0 1 9; drop 9; one 2 collect; index 3 0 1; give 4 r2 r3`+"\nproto f\ngive 0", "gives 3 nil")
	}
}

// P5, P7: a key that is reached only behind the weak table, and one that is the value of another weak key: what stands beside them is
// reached then, in either order.
func TestStepWeakKeysReachedLate(t *testing.T) {
	weak := `table 0; table 1; const 2 "weak"; const 3 "k"; raw 1 2 3; one 4 setkind r0 ~1; drop 4; `
	checkGives(t, weak+"table 4; table 5; raw 0 4 ~5; table 6; raw 6 2 ~4; one 7 cells; one 8 collect; give 9 r7 r8", "gives 8 8")
	for _, pairs := range []string{"raw 0 4 5; raw 0 5 6", "raw 0 5 6; raw 0 4 5"} {
		for keep, want := range map[string]string{"raw 7 2 4": "gives 10 10", "raw 7 2 5": "gives 9 8", "raw 7 2 6": "gives 8 6"} {
			checkGives(t, weak+"table 4; table 5; table 6; table 7; "+pairs+"; "+keep+"; drop 4; drop 5; drop 6; one 8 cells; one 9 collect; give 10 r8 r9", want)
		}
	}
}

// lastSteps: a table in register 9 whose last word is spoken by the fn in register 8; registers from 6 on are used.
const lastSteps = `table 6; const 7 "last"; raw 6 7 8; table 9; do 10 setkind r9 ~6; drop 10; drop 7; `

// P5: last words: in the order of making, with their records; a table has one only.
func TestStepLastWords(t *testing.T) {
	checkSteps(t, "proto main\nline 1; fn 8 f; "+lastSteps+`const 10 "n"; const 11 1; raw 9 10 11; drop 9; `+lastSteps+`const 10 "n"; const 11 2; raw 9 10 11; drop 9; drop 10; drop 11; line 2; one 0 collect; say 1 r0; one 0 collect; give 1 r0
proto f line=7 params=1
const 1 "n"; index 1 0 1; say 2 r1; give 2 "dropped"`,
		"line 0.0:1", "line 0.0:2", "last 0.0:0", "call 0.1:7 f", "print 0.1:0 1", "back 0.1:0", "last 0.0:0", "call 0.1:7 f", "print 0.1:0 2", "back 0.1:0", "print 0.0:2 1", "gives 1")
	// Wanted by what `last` was at the setkind, spoken by what it is just then.
	for between, want := range map[string][]string{
		`tick`: {"f", "gives 1"},
		`one 0 kind r9; const 1 "last"; const 2 7; raw 0 1 2; drop 0; drop 1; drop 2`:     {"gives 1"},
		`one 0 kind r9; const 1 "last"; const 2 print; raw 0 1 2; drop 0; drop 1; drop 2`: {"gives 1"},
		`do 0 setkind r9; drop 0`: {"gives 1"},
		`one 0 kind r9; do 1 setkind r9; do 1 setkind r9 r0; drop 0; drop 1`:                                                 {"f", "gives 1"},
		`one 0 kind r9; const 1 "last"; const 2 7; raw 0 1 2; do 3 setkind r9 r0; raw 0 1 8; drop 0; drop 1; drop 2; drop 3`: {"gives 1"},
		`one 0 kind r9; const 1 "last"; const 2 7; raw 0 1 2; raw 0 1 8; drop 0; drop 1; drop 2`:                             {"f", "gives 1"},
	} {
		checkGives(t, "proto main\nfn 8 f; "+lastSteps+between+"; drop 9; one 0 collect; give 1 r0\nproto f\nsay 0 \"f\"; give 0", want...)
	}
}

// P5: an error that leaves a last word is caught and dropped; the others are told still.
func TestStepLastWordsThatThrow(t *testing.T) {
	checkSteps(t, "proto main\nline 1; fn 8 f; "+lastSteps+"drop 9; "+lastSteps+`drop 9; try @h 0; do 0 collect; return 0; h: give 2 "never"
proto f params=1 line=7
scope 1; at 3; later 1 print "left"; at 4; const 1 "x"; throw 1`,
		"line 0.0:1", "last 0.0:0", "call 0.1:7 f", "throw 0.1:4 x", "print 0.1:3 left", "back 0.1:0 error", "catch 0.0:0 x",
		"last 0.0:0", "call 0.1:7 f", "throw 0.1:4 x", "print 0.1:3 left", "back 0.1:0 error", "catch 0.0:0 x", "gives 1")
	// One that cannot be called for its depth.
	in := plenty()
	in.Depth = 1
	text := "proto main\nline 1; fn 8 f; " + lastSteps + "drop 9; do 0 collect; return 0\nproto f\ngive 0"
	checkShown(t, text, stepsTold(ranCode(t, text, stepsOf(text), in)), []string{"line 0.0:1", "last 0.0:0", "throw 0.0:1 error 8", "catch 0.0:0 error 8", "gives 1"})
}

// P5: last words that make new tables with last words, and that make what was not reached reached again.
func TestStepLastWordsRounds(t *testing.T) {
	// Each makes the next one, three times.
	checkSteps(t, `proto main
const 0 0; box 0 ~0; fn 8 f; `+lastSteps+`drop 9; do 1 collect; return 1
proto f params=1 ups=r0
upget 1 0; const 2 1; binary 1 add ~1 ~2; upput 0 1; const 2 3; binary 2 ge 1 ~2; if ~2 @e; one 2 kind r0; table 3; do 4 setkind r3 ~2; drop 3; drop 4; e: give 5`,
		"last 0.0:0", "call 0.1:0 f", "back 0.1:0", "last 0.0:0", "call 0.1:0 f", "back 0.1:0", "last 0.0:0", "call 0.1:0 f", "back 0.1:0", "gives 2")
	// Brought back, it lives, and has no last word any more.
	checkGives(t, `proto main
const 0 nil; box 0 ~0; fn 8 f; `+lastSteps+`drop 9; one 1 collect; say 2 r1; get 1 0; say 2 r1; const 2 nil; put 0 2; drop 1; one 1 collect; give 2 r1
proto f params=1 ups=r0
upput 0 0; say 1 "f"; give 1`, "f", "5", "table", "gives 2")
	// All of one round are reached until the last of them has ended, with what they reach.
	checkGives(t, `proto main
fn 8 f; `+lastSteps+`table 0; const 1 "k"; raw 9 1 ~0; drop 9; `+lastSteps+`drop 9; drop 1; one 0 collect; give 1 r0
proto f params=1
one 1 cells; say 2 r1; give 2`, "9", "9", "gives 1")
	// A weak table loses what is not reached ahead of the words; what is brought back does not come again.
	checkGives(t, `proto main
const 0 nil; box 0 ~0; table 1; table 2; const 3 "weak"; const 4 "v"; raw 2 3 4; do 5 setkind r1 ~2; drop 3; drop 4; drop 5; fn 8 f; `+lastSteps+`const 2 "k"; raw 1 2 ~9; one 3 collect; index 4 1 2; get 5 0; give 6 r4 r5
proto f params=1 ups=r0
upput 0 0; give 1`, "gives nil table")
}

// P5: a collect within a last word; yields in last words.
func TestStepCollectWithin(t *testing.T) {
	checkSteps(t, "proto main\nfn 8 f; "+lastSteps+"drop 9; "+lastSteps+`drop 9; do 0 collect; return 0
proto f params=1
one 1 collect; say 2 r1; give 2`,
		"last 0.0:0", "call 0.1:0 f", "print 0.1:0 7", "back 0.1:0", "last 0.0:0", "call 0.1:0 f", "print 0.1:0 7", "back 0.1:0", "gives 1")
	// A yield in a task that speaks last words is ErrTask, in another one it is not; behind the collect it may yield again.
	checkSteps(t, "proto main\nfn 0 g; one 1 task r0; do 2 resume r1; return 2\nproto g\nfn 8 f; "+lastSteps+`drop 9; do 0 collect; drop 0; do 0 yield "behind"; return 0
proto f
fn 0 h; one 1 task r0; do 2 resume r1; do 3 yield 1; give 4
proto h
do 0 yield; return 0`,
		"turn 1.0:0 resume", "call 1.1:0 g", "last 1.0:0", "call 1.2:0 f", "turn 2.0:0 resume", "call 2.3:0 h", "turn 1.0:0 yield", "throw 1.2:0 error 10", "back 1.2:0 error", "catch 1.0:0 error 10",
		"turn 0.0:0 yield", "gives true behind")
}

// P5: BCells takes nothing away and tells no last words; what it counts is what a collect would count ahead of them.
func TestStepCellsTakeNothing(t *testing.T) {
	text := "proto main\nfn 8 f; " + lastSteps + "drop 9; table 0; table 1; const 2 \"weak\"; const 3 \"kv\"; raw 1 2 3; do 4 setkind r0 ~1; drop 4; table 1; raw 0 2 ~1; one 3 cells; one 3 cells; index 4 0 2; give 5 r3 r4\nproto f\nsay 0 \"f\"; give 0"
	checkGives(t, text, "gives 5 table")
	in := plenty()
	in.Cells = 9
	r := ranCode(t, text, stepsOf(text), in)
	if r.Code != 0 || r.Made != 9 {
		t.Errorf("%+v", r)
	}
	in.Cells = 8
	if r := ranCode(t, text, stepsOf(text), in); r.Error != "error 9" {
		t.Errorf("%+v", r)
	}
}
