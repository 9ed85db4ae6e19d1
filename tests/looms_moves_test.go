package tests

import (
	"strings"
	"testing"

	"loop.example/heddle/impl"
)

// checkCourse: what stands behind each move from one on, as courseOf has it, up to the end; the whole run is that of the plain machine.
func checkCourse(t *testing.T, text string, from int, want string) {
	t.Helper()
	checkCourseOf(t, text, plenty(), from, want)
}

func checkCourseOf(t *testing.T, text string, in impl.Input, from int, want string) {
	t.Helper()
	c := stepsOf(text)
	ranCode(t, text, c, in)
	course := courseOf(c, in)
	if got := strings.Join(course[min(from, len(course)):], " | "); got != want {
		t.Errorf("%s\nfrom %d: %s\nwant    %s", text, from, got, want)
	}
}

// P7: a task without frames: the text's run is over, another task is done and hands the turn back.
func TestLoomMovesOfEndedTasks(t *testing.T) {
	checkCourse(t, "list 0; return 0", 0, "c0 | c1 | c1!return | given | over 0")
	checkCourse(t, "const 0 7; list 1; add 1 ~0; return ~1", 3, "c3 | c3!return | given 7 | over 0")
	checkCourse(t, "const 0 7; throw 0", 1, "c1 | c1 way error 7 at main:0 | c1!error | way error 7 at main:0 | over 1")
	// Done, by a return and by an error: there it is given, and completed in the next move.
	task := "proto main\nfn 0 f; one 1 task r0; do 2 resume r1; return 2\nproto f line=3\n"
	checkCourse(t, task+"give 0 5", 9, "c9 | task 1: c0 | task 1: c1 | task 1: c2 | task 1: c3 | task 1: c3!return | task 1: given 5 | c9 given true 5 | c10 | c10!return | given true 5 | over 0")
	checkCourse(t, task+"const 0 5; throw 0", 10, "task 1: c0 | task 1: c1 | task 1: c1 way error 5 at f:0 | task 1: c1!error | task 1: way error 5 at f:0 | "+
		"c9 given false 5 \"f:0\" | c10 | c10!return | given false 5 \"f:0\" | over 0")
	// Its fn cannot be called at all.
	in := plenty()
	in.Depth = 1
	checkCourseOf(t, task+"give 0 5", in, 9, "c9 | task 1: way error t1 | c9 given false t1 \"\" | c10 | c10!return | given false t1 \"\" | over 0")
	// Given up, without and with an error that was dropped.
	gone := "proto main\nfn 0 f; one 1 task r0; do 2 resume r1; drop 2; do 2 giveup r1; return 2\nproto f line=3\n"
	checkCourse(t, gone+"do 0 yield; return 0", 12, "task 1: c2 | c10 | c11 | c12 | c13 | c14 | task 1: c2 way gone | task 1: c2!gone | task 1: way gone | c14 given true | c15 | c15!return | given true | over 0")
	checkCourse(t, gone+"scope 0; later 0 7; do 0 yield; return 0", 21, "c14 | task 1: c6 way gone | task 1: c6!gone | task 1: c6!gone way error t1 at f:0 | task 1: c6!gone | task 1: c6!gone | "+
		"task 1: way gone | c14 given false t1 \"f:0\" | c15 | c15!return | given false t1 \"f:0\" | over 0")
	// A new one is done at once.
	checkCourse(t, "proto main\nfn 0 f; one 1 task r0; do 2 giveup r1; return 2\nproto f\ngive 0", 9, "c9 | c10 | c10!return | given true | over 0")
}

// P7: what is on its way comes to one frame after the other.
func TestLoomMovesOfWays(t *testing.T) {
	// Through what becomes of a handler's values, which goes.
	checkCourse(t, kindedSteps("add", "7")+"binary 2 add 0 0; give 3", 13, "c14 | c14 a1 way error t2 at main:1 | c14 way error t2 at main:1 | c14!error | way error t2 at main:1 | over 1")
	checkCourse(t, kindedSteps("add", "h")+"binary 2 add 0 0; give 3\nproto h\nconst 0 7; throw 0", 13,
		"c14 | c14 a1 c0 | c14 a1 c1 | c14 a1 c1 way error 7 at h:0 main:1 | c14 a1 c1!error | c14 a1 way error 7 at h:0 main:1 | c14 way error 7 at h:0 main:1 | c14!error | way error 7 at h:0 main:1 | over 1")
	// To a collect: caught, and the next last word is told.
	checkCourse(t, "proto main\nfn 8 f; "+lastSteps+"drop 9; "+lastSteps+"drop 9; do 0 collect; return 0\nproto f params=1\nthrow 0", 27,
		"c27 | c27 k0 | c27 K1 c0 | c27 K1 c0 way error t2 at f:0 main:0 | c27 K1 c0!error | c27 K1 way error t2 at f:0 main:0 | c27 K1 given | "+
			"c27 K2 c0 | c27 K2 c0 way error t4 at f:0 main:0 | c27 K2 c0!error | c27 K2 way error t4 at f:0 main:0 | c27 K2 given | c27 k0 | c27 given 1 | c28 | c28!return | given 1 | over 0")
	// To a call that is being left: by a return, by an ILeave, by another error.
	later := "; later 0 print 1; later 0 7; "
	checkCourse(t, "scope 0"+later+"give 0", 8, "c8 | c9 | c10 | c10!return | c10!return way error t0 at main:0 | c10!error | c10!error given | c10!error | way error t0 at main:0 | over 1")
	checkCourse(t, "scope 0"+later+"leave; give 0", 8, "c8 | c9 | c9- | c9- way error t0 at main:0 | c9!error | c9!error given | c9!error | way error t0 at main:0 | over 1")
	checkCourse(t, "scope 0"+later+"const 0 5; throw 0", 10, "c10 | c10 way error 5 at main:0 | c10!error | c10!error way error t0 at main:0 | c10!error | c10!error given | c10!error | way error t0 at main:0 | over 1")
	// A giving up takes the place of what was on its way; what is thrown then is dropped.
	for how, word := range map[string]string{"const 0 5; throw 0": "c8!error", "give 0 6": "c10!return", "leave; give 0": "c7-"} {
		text := "proto main\nfn 0 f; one 1 task r0; do 2 resume r1; drop 2; do 2 giveup r1; return 2\nproto f\nscope 0; later 0 7; later 0 yield; " + how
		c := stepsOf(text)
		ranCode(t, text, c, plenty())
		course := strings.Join(courseOf(c, plenty()), " | ")
		at := strings.TrimRight(word, "!-eorntu")
		want := " | task 1: " + word + " | c9 given true | c10 | c11 | c12 | c13 | c14 | task 1: " + word + " way gone | task 1: AT!gone | task 1: AT!gone way error t1 at f:0 | task 1: AT!gone | " +
			"task 1: AT!gone | task 1: way gone | c14 given false t1 \"f:0\" | c15 | c15!return | given false t1 \"f:0\" | over 0"
		if !strings.HasSuffix(course, strings.ReplaceAll(want, "AT", at)) {
			t.Errorf("%s\n%s\nwant %s", text, course, want)
		}
	}
}

// P7: a collect: each round, each last word, the end of a round, and the end of all are moves of their own.
func TestLoomMovesOfCollects(t *testing.T) {
	checkCourse(t, "do 0 collect; return 0", 2, "c2 | c2 k0 | c2 given 0 | c3 | c3!return | given 0 | over 0")
	// As a handler, as a defer, out of ILeave.
	checkCourse(t, kindedSteps("add", "collect")+"binary 2 add 0 0; give 3", 13, "c14 | c14 a1 k0 | c14 a1 given 3 | c14 given 3 | c15 | c16 | c16!return | given | over 0")
	checkCourse(t, "scope 0; later 0 collect; leave; give 0", 4, "c4 | c4- | c4- k0 | c4- given 0 | c5 | c6 | c6!return | given | over 0")
	last := "proto main\nfn 8 f; " + lastSteps + "drop 9; "
	checkCourse(t, last+"do 0 collect; return 0\nproto f\ngive 0 5", 14,
		"c14 | c15 | c15 k0 | c15 K1 c0 | c15 K1 c1 | c15 K1 c2 | c15 K1 c3 | c15 K1 c3!return | c15 K1 given 5 | c15 k0 | c15 given 1 | c16 | c16!return | given 1 | over 0")
	// A table whose kind has no last word any more: no round.
	checkCourse(t, last+"drop 8; do 0 collect; return 0\nproto f\ngive 0", 16, "c16 | c16 k0 | c16 K1 c0 | c16 K1 c1 | c16 K1 c1!return | c16 K1 given | c16 k0 | c16 given 0 | c17 | c17!return | given 0 | over 0")
	checkCourse(t, strings.Replace(last, "drop 9; ", "one 0 kind r9; const 1 7; const 2 \"last\"; raw 0 ~2 ~1; drop 0; drop 8; drop 9; ", 1)+"do 0 collect; return 0\nproto f\ngive 0", 24,
		"c25 | c25 k0 | c25 given 0 | c26 | c26!return | given 0 | over 0")
	// A last word that cannot be called.
	in := plenty()
	in.Depth = 1
	checkCourseOf(t, last+"do 0 collect; return 0\nproto f\ngive 0 5", in, 15, "c15 | c15 k0 | c15 K1 way error t3 at main:0 | c15 K1 given | c15 k0 | c15 given 1 | c16 | c16!return | given 1 | over 0")
}

// P7: what becomes of a handler's values: the first, its truth, the opposite, nothing.
func TestLoomMovesOfHandlers(t *testing.T) {
	for op, x := range map[string]struct {
		handler, then string
		gives         map[string]string
	}{
		"binary 1 add 0 0":          {"add", "a1", map[string]string{"7 8": "7", "": "nil", "false": "false"}},
		"binary 1 lt 0 0":           {"lt", "a2", map[string]string{"7 8": "true", "": "false", "false 1": "false"}},
		"binary 1 ge 0 0":           {"le", "a2", map[string]string{"7 8": "true", "": "false", "false 1": "false"}},
		"table 1; binary 1 eq 0 ~1": {"eq", "a2", map[string]string{"7 8": "true", "": "false", "false 1": "false"}},
		"table 1; binary 1 ne 0 ~1": {"eq", "a3", map[string]string{"7 8": "false", "": "true", "false 1": "true"}},
		"unary 1 neg 0":             {"neg", "a1", map[string]string{"7 8": "7", "": "nil"}},
		"unary 1 len 0":             {"len", "a1", map[string]string{"7 8": "7", "": "nil"}},
		"index 1 0 0":               {"index", "a1", map[string]string{"7 8": "7", "": "nil"}},
	} {
		for gives, want := range x.gives {
			text := kindedSteps(x.handler, "h") + op + "; give 2 r1\nproto h\ngive 0 " + gives
			course := strings.Join(courseOf(stepsOf(text), plenty()), " | ")
			ranCode(t, text, stepsOf(text), plenty())
			at, next := "c14", "c15"
			if strings.HasPrefix(op, "table") {
				at, next = "c15", "c16"
			}
			// As long as it is called, and then the moves of the end: what it gave, what becomes of that, the next instruction.
			if !strings.Contains(course, " | "+at+" | "+at+" "+x.then+" c0 | ") || !strings.Contains(course, "!return | "+at+" "+x.then+" given"+strings.TrimRight(" "+gives, " ")+" | "+at+" given "+want+" | "+next+" | ") ||
				!strings.HasSuffix(course, "given "+want+" | over 0") {
				t.Errorf("%s\n%s", text, course)
			}
		}
	}
	checkCourse(t, kindedSteps("setindex", "h")+"set 0 0 0; give 2\nproto h\ngive 0 7", 13, "c14 | c14 a4 c0 | c14 a4 c1 | c14 a4 c2 | c14 a4 c3 | c14 a4 c3!return | c14 a4 given 7 | c14 given | c15 | c16 | c16!return | given | over 0")
	checkCourse(t, kindedSteps("setindex", "rawget")+"set 0 0 0; give 2", 13, "c14 | c14 a4 given nil | c14 given | c15 | c16 | c16!return | given | over 0")
	checkCourse(t, kindedSteps("each", "h")+"each 0; give 2\nproto h\ngive 0 print", 16, "c14 a1 c2 | c14 a1 c3 | c14 a1 c3!return | c14 a1 given print | c14 given print | c15 | c16 | c16!return | given | over 0")
	checkCourse(t, kindedSteps("each", "type")+"each 0; give 2", 13, "c14 | c14 a1 given \"table\" | c14 given \"table\" | c14 way error t2 at main:1 | c14!error | way error t2 at main:1 | over 1")
	// The handler `call` has no such frame.
	checkCourse(t, kindedSteps("call", "h")+"do 1 r0; return 1\nproto h\ngive 0 7", 15, "c16 | c16 c0 | c16 c1 | c16 c2 | c16 c3 | c16 c3!return | c16 given 7 | c17 | c17!return | given 7 | over 0")
	checkCourse(t, kindedSteps("call", "type")+"do 1 r0; return 1", 15, "c16 | c17 | c17!return | given \"table\" | over 0")
	// A yield as a handler: it is given behind the turn, not completed in its move.
	checkCourse(t, "proto main\nfn 0 f; one 1 task r0; do 2 resume r1; do 3 resume r1 5; return 3\n"+strings.Replace(kindedSteps("neg", "yield"), "main", "f", 1)+"unary 1 neg 0; give 2 r1", 24,
		"c10 | c11 | c12 | c13 | c14 | c15 | task 1: c14 a1 given 5 | task 1: c14 given 5 | task 1: c15 | task 1: c16 | task 1: c17 | task 1: c17!return | task 1: given 5 | c15 given true 5 | c16 | c16!return | given true 5 | over 0")
}

// P7: calls that are being left: guard by guard, defer by defer.
func TestLoomMovesOfLeaving(t *testing.T) {
	checkCourse(t, "scope 0; try @h 0; scope 0; later 0 print 1; later 0 read; give 0 7; h: throw 0", 14,
		"c14 | c14!return | c14!return given nil | c14!return given | c14!return | c14!return | c14!return | given 7 | over 0")
	checkCourse(t, "scope 0; try @h 0; scope 0; later 0 print 1; later 0 read; const 0 7; throw 0; h: drop 1; throw 0", 12,
		"c12 | c12 way error 7 at main:0 | c12!error | c12!error given nil | c12!error given | c12!error | c13 | c14 | c14 way error 7 at main:0 | c14!error | c14!error | way error 7 at main:0 | over 1")
	checkCourse(t, "scope 0; leave; give 0", 0, "c0 | c1 | c1- | c2 | c3 | c3!return | given | over 0")
	// A defer that is a fn, and one that lets another task run.
	checkCourse(t, "proto main\nfn 0 f; scope 1; later 1 r0; give 1\nproto f\ngive 0 5", 4, "c4 | c5 | c6 | c6!return | c6!return c0 | c6!return c1 | c6!return c2 | c6!return c3 | c6!return c3!return | c6!return given 5 | c6!return | given | over 0")
	checkCourse(t, "proto main\nfn 0 f; one 1 task r0; scope 2; later 2 resume r1; give 2\nproto f\ngive 0 5", 11,
		"c11 | c12 | c12!return | task 1: c0 | task 1: c1 | task 1: c2 | task 1: c3 | task 1: c3!return | task 1: given 5 | c12!return given true 5 | c12!return | given | over 0")
}

// P7: instructions: what is there at once is completed in the same move, what is not in a later one, be it in another task.
func TestLoomMovesOfInstructions(t *testing.T) {
	checkCourse(t, "line 1; at 2; tick; const 0 1; move 1 ~0; box 1 ~1; get 2 1; put 1 2; drop 1; drop 2; give 0", 0, "c0 | c1 | c2 | c3 | c4 | c5 | c6 | c7 | c8 | c10 | c11 | c11!return | given | over 0")
	checkCourse(t, "table 0; const 1 1; raw 0 1 1; list 2; add 2 1; rawall 0 1 2; index 3 0 1; set 0 1 3; unary 3 neg 1; binary 3 add 1 1; give 4", 6,
		"c6 | c7 | c8 | c9 | c10 | c11 | c11!return | given | over 0")
	checkCourse(t, "const 0 1; if 0 @a; tick; a: unless 0 @b; jump @c; b: tick; c: give 1", 0, "c0 | c1 | c3 | c4 | c6 | c7 | c7!return | given | over 0")
	checkCourse(t, "list 0; copy 1 0; join 0 ~1; pick 1 0 3; first 1 ~0; const 0 1; const 1 1; const 2 1; for 0; t: fortest 0 @e; tick; fornext 0 @t; e: give 3", 4,
		"c4 | c5 | c6 | c7 | c8 | c9 | c10 | c11 | c9 | c12 | c13 | c13!return | given | over 0")
	checkCourse(t, "list 0; const 1 5; list 2; add 2 1; copy 3 2; join 3 2; join 2 ~3; add 0 ~1; join 2 0; return 2", 9, "c9 | c9!return | given 5 5 5 5 | over 0")
	checkCourse(t, "do 0 type 7; try @h 1; endtry; scope 1; keep 2; leave; return 0; h: throw 1", 3, "c3 | c4 | c5 | c6 | c7 | c8 | c9 | c9- | c10 | c10!return | given \"int\" | over 0")
	// IEach and IEachNext over a table, a builtin, a fn.
	checkCourse(t, "table 0; const 2 1; raw 0 2 2; drop 2; each 0; n: eachnext 0 @e 2; drop 2; jump @n; e: give 2", 4, "c4 | c5 | c6 | c7 | c5 | c8 | c9 | c9!return | given | over 0")
	checkCourse(t, "const 0 read; each 0; n: eachnext 0 @e 2; drop 2; jump @n; e: give 2", 0, "c0 | c1 | c2 | c5 | c6 | c6!return | given | over 0")
	checkCourse(t, "proto main\nfn 0 f; each 0; n: eachnext 0 @e 2; drop 2; jump @n; e: give 2\nproto f\ngive 0", 0, "c0 | c1 | c2 | c2 c0 | c2 c1 | c2 c1!return | c2 given | c5 | c6 | c6!return | given | over 0")
	in := plenty()
	in.Lines = []string{"l"}
	checkCourseOf(t, "const 0 read; each 0; n: eachnext 0 @e 2; drop 2; jump @n; e: give 2", in, 0, "c0 | c1 | c2 | c3 | c4 | c2 | c5 | c6 | c6!return | given | over 0")
	// A resume is completed by the yield, in the same move; so is a yield by the next resume.
	checkCourse(t, "proto main\nfn 0 f; one 1 task r0; do 2 resume r1 5; do 3 resume r1 6; return 3\nproto f params=1\ndo 1 yield r0; return 1", 11,
		"c11 | task 1: c0 | task 1: c1 | task 1: c2 | task 1: c3 | c12 | c13 | c14 | c15 | c16 | c17 | task 1: c4 | task 1: c4!return | task 1: given 6 | c17 given true 6 | c18 | c18!return | given true 6 | over 0")
	// What is thrown leaves the instruction where it is, what it took is gone.
	checkCourse(t, "const 0 7; const 1 7; index 2 ~0 ~1; throw 2", 2, "c2 | c2 way error t0 at main:0 | c2!error | way error t0 at main:0 | over 1")
	checkCourse(t, "const 0 7; list 1; call 2 ~0 ~1; return 2", 2, "c2 | c2 way error t0 at main:0 | c2!error | way error t0 at main:0 | over 1")
	// The last move is the one in which the run is over, wherever that is.
	in = plenty()
	in.Ticks = 1
	checkCourseOf(t, "tick; at 3; tick; give 0", in, 0, "c0 | c1 | c2 | over 2")
	checkCourseOf(t, "scope 0; later 0 print 1; later 0 print 2; leave; give 0", in, 11, "c11 | c11- | c11- given | over 2")
}
