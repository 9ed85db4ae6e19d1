package tests

import (
	"fmt"
	"slices"
	"strings"
	"testing"

	"loop.example/heddle/impl"
)

// regsBehind: the registers of the innermost open call behind n moves, as they are told.
func regsBehind(c impl.Code, n int) string {
	m := impl.Stand(c, plenty(), 0, n)
	frames := m.Tasks[m.Cur].Frames
	return regsTold(frames[len(frames)-1].Regs)
}

// P7: QDrops in one move; a jump into its midst does what is left of it.
func TestLoomQuickDrops(t *testing.T) {
	text := "const 0 1; const 1 2; const 2 3; const 3 4; drop 1; drop 2; drop 3; list 1; return 1"
	checkCourse(t, text, 3, "c3 | c4 | c7 | c8 | c8!return | given | over 0")
	if got := regsBehind(stepsOf(text), 5); got != "value 1, nothing, nothing, nothing" {
		t.Error(got)
	}
	text = "const 0 1; const 2 3; const 3 4; jump @m; drop 1; m: drop 2; drop 3; tick; drop 0; list 1; return 1"
	checkCourse(t, text, 3, "c3 | c5 | c7 | c8 | c9 | c10 | c10!return | given | over 0")
	checkCourse(t, "const 3 4; jump @m; drop 1; drop 2; m: drop 3; list 1; return 1", 1, "c1 | c4 | c5 | c6 | c6!return | given | over 0")
}

// P7: QTest without a handler: one move for both, nothing is put; true and false, for IIf and IUnless.
func TestLoomQuickTests(t *testing.T) {
	truths := map[string][3]bool{"eq": {false, true, false}, "ne": {true, false, true}, "lt": {true, false, false}, "le": {true, true, false}, "gt": {false, false, true}, "ge": {false, true, true}}
	for op, truth := range truths {
		for i, nums := range []string{"const 0 1; const 1 2; ", "const 0 2; const 1 2; ", "const 0 3; const 1 2; "} {
			for _, how := range []string{"if", "unless"} {
				// Register 2 held something ahead of it.
				text := nums + "const 2 9; binary 2 " + op + " ~0 1; " + how + " ~2 @y; tick; y: list 3; return 3"
				at := "c5"
				if truth[i] == (how == "if") {
					at = "c6"
				}
				course := courseOf(stepsOf(text), plenty())
				if ranCode(t, text, stepsOf(text), plenty()); course[3] != "c3" || course[4] != at {
					t.Errorf("%s: %v, want %s", text, course, at)
				}
				if got := regsBehind(stepsOf(text), 4); got != "nothing, value 2, nothing, nothing" {
					t.Errorf("%s: %s", text, got)
				}
				// A jump to its second instruction does that one alone.
				text = strings.Replace(text, "binary 2", "jump @x; binary 2", 1)
				text = strings.Replace(text, how+" ~2", "x: "+how+" ~2", 1)
				goesOn := map[string]string{"if": "c7", "unless": "c6"}[how]
				if course := courseOf(stepsOf(text), plenty()); course[4] != "c5" || course[5] != goesOn {
					t.Errorf("%s: %v, want %s", text, course, goesOn)
				}
				ranCode(t, text, stepsOf(text), plenty())
			}
		}
	}
}

// P7: QTest with a handler goes on as from its first instruction: the value comes into its place, then the second one is done.
func TestLoomQuickTestHandlers(t *testing.T) {
	for op, name := range map[string]string{"eq": "eq", "ne": "eq", "lt": "lt", "le": "le", "gt": "lt", "ge": "le"} {
		for gives, truth := range map[string]bool{"7": true, "nil": false} {
			for _, how := range []string{"if", "unless"} {
				text := kindedSteps(name, "h") + "table 1; binary 2 " + op + " ~0 1; " + how + " ~2 @y; tick; y: list 3; return 3\nproto h\ngive 0 " + gives
				then, holds := "a2", truth
				if op == "ne" {
					then, holds = "a3", !truth
				}
				goesOn := "c17"
				if holds == (how == "if") {
					goesOn = "c18"
				}
				want := strings.ReplaceAll(fmt.Sprintf("c15 | c15 THEN c0 | c15 THEN c1 | c15 THEN c2 | c15 THEN c3 | c15 THEN c3!return | c15 THEN given %s | c15 given %v | c16 | %s | ", gives, holds, goesOn), "THEN", then)
				c := stepsOf(text)
				ranCode(t, text, c, plenty())
				course := courseOf(c, plenty())
				if got := strings.Join(course, " | "); !strings.Contains(got, want) {
					t.Errorf("%s\n%s\nwant %s", text, got, want)
				}
				if got, want := regsBehind(c, slices.Index(course, "c16")), fmt.Sprintf("nothing, value t3, value %v, nothing", holds); got != want {
					t.Errorf("%s: %s, want %s", text, got, want)
				}
			}
		}
	}
	// A builtin as a handler is not completed in its move either.
	checkCourse(t, kindedSteps("lt", "type")+"binary 2 lt 0 0; if ~2 @y; tick; y: give 3", 13, "c14 | c14 a2 given \"table\" | c14 given true | c15 | c17 | c18 | c18!return | given | over 0")
	// What is thrown leaves the call where it is; the operands that were taken are gone, its place is as it was.
	text := "const 0 nil; const 1 2; const 2 9; binary 2 lt ~0 1; if ~2 @y; tick; y: give 3"
	checkCourse(t, text, 3, "c3 | c3 way error t0 at main:0 | c3!error | way error t0 at main:0 | over 1")
	if got := regsBehind(stepsOf(text), 4); got != "nothing, value 2, value 9, nothing" {
		t.Error(got)
	}
}

// P7: QWith on both sides, with what it takes, throws and calls; a jump to its second instruction does that one alone.
func TestLoomQuickWith(t *testing.T) {
	for binary, want := range map[string]string{"sub 0 ~1": "5", "sub ~1 0": "-5", "sub ~0 ~1": "5", "sub ~1 ~0": "-5", "lt 0 ~1": "false", "lt ~1 0": "true"} {
		text := "const 0 7; const 1 2; binary 2 " + binary + "; give 3 r2"
		checkCourse(t, text, 1, "c1 | c3 | c4 | c5 | c5!return | given "+want+" | over 0")
		left := "value 7"
		if strings.Contains(binary, "~0") {
			left = "nothing"
		}
		if got := regsBehind(stepsOf(text), 2); got != left+", nothing, value "+want+", nothing" {
			t.Errorf("%s: %s", text, got)
		}
		text = strings.Replace(text, "const 1 2; binary", "const 1 4; jump @x; const 1 2; x: binary", 1)
		now := map[string]string{"5": "3", "-5": "-3"}[want]
		if now == "" {
			now = want
		}
		checkCourse(t, text, 1, "c1 | c2 | c4 | c5 | c6 | c7 | c7!return | given "+now+" | over 0")
	}
	// The call stands at the second instruction when it throws or calls, and the const's register holds nothing, whatever it held.
	text := "const 0 nil; const 1 5; const 1 2; binary 2 add 0 ~1; give 3 r2"
	checkCourse(t, text, 1, "c1 | c2 | c3 way error t0 at main:0 | c3!error | way error t0 at main:0 | over 1")
	if got := regsBehind(stepsOf(text), 3); got != "value nil, nothing, nothing, nothing" {
		t.Error(got)
	}
	for _, operands := range []string{"0 ~1", "~1 0", "~0 ~1"} {
		text = kindedSteps("add", "h") + "const 1 2; binary 2 add " + operands + "; give 3 r2\nproto h params=2\ngive 2 r0 r1"
		c := stepsOf(text)
		ranCode(t, text, c, plenty())
		course := courseOf(c, plenty())
		want := "t0"
		if strings.HasPrefix(operands, "~1") {
			want = "2"
		}
		if !slices.Equal(course[13:15], []string{"c14", "c15 a1 c0"}) || !slices.Contains(course, "c15 given "+want) || !slices.Contains(course, "c16") {
			t.Errorf("%s: %v", text, course)
		}
	}
	// OpJoin has its tick.
	in := plenty()
	in.Ticks = 1
	checkCourseOf(t, `const 0 "a"; const 1 "b"; binary 0 join 0 ~1; const 1 "c"; binary 0 join ~1 0; give 3 r0`, in, 0, "c0 | c1 | c3 | over 2")
}

// cachesTold: Hits, Misses and the caches behind the last move but one, the rest of which shows them still.
func cachesTold(c impl.Code, in impl.Input) string {
	m := impl.Stand(c, in, 0, impl.Moves(c, in)-1)
	over := impl.Stand(c, in, 0, impl.Moves(c, in))
	if over.Hits != m.Hits || over.Misses != m.Misses || len(over.Caches) > 0 {
		return "not the same when it is over"
	}
	told := fmt.Sprint(m.Hits, " hits ", m.Misses, " misses")
	for _, c := range m.Caches {
		told += fmt.Sprint(" ", c.Ver, "/", c.Place)
	}
	return told
}

// checkCaches: what a code gives, and its caches at the end.
func checkCaches(t *testing.T, text, want string, gives ...string) {
	t.Helper()
	checkGives(t, text, gives...)
	if got := cachesTold(stepsOf(text), plenty()); got != want {
		t.Errorf("%s: %s, want %s", text, got, want)
	}
}

// fieldTwice: reads the field "b" of a table with the pairs a and b in two turns of a loop, with something done between them.
func fieldTwice(between string) string {
	return `table 0; const 1 "a"; const 2 5; raw 0 1 2; const 1 "b"; const 2 6; raw 0 1 2; drop 1; drop 2; const 1 1; const 2 2; const 3 1; for 1; ` +
		`t: fortest 1 @e; tick; const 4 "b"; index 4 0 ~4; say 5 r4; drop 4; ` + between + `; fornext 1 @t; e: give 4`
}

// P7: QField: a miss that fills its cache, a hit; what changes the keys of the table makes it a miss, what changes values does not.
func TestLoomQuickFields(t *testing.T) {
	for between, x := range map[string]struct {
		told  string
		gives []string
	}{
		"tick":                                            {"1 hits 1 misses 3/1", []string{"6", "6"}},
		`const 4 "b"; const 5 8; raw 0 ~4 ~5`:             {"1 hits 1 misses 3/1", []string{"6", "8"}},
		`const 4 "c"; const 5 8; raw 0 ~4 ~5`:             {"0 hits 2 misses 4/1", []string{"6", "6"}},
		`const 4 "a"; const 5 nil; raw 0 ~4 ~5`:           {"0 hits 2 misses 4/0", []string{"6", "6"}},
		`const 4 "a"; const 5 nil; set 0 ~4 ~5`:           {"0 hits 2 misses 4/0", []string{"6", "6"}},
		`do 4 rawset r0 "a"; drop 4`:                      {"0 hits 2 misses 4/0", []string{"6", "6"}},
		`const 4 "z"; const 5 nil; raw 0 ~4 ~5`:           {"1 hits 1 misses 3/1", []string{"6", "6"}},
		`const 4 "b"; const 5 nil; raw 0 ~4 ~5`:           {"0 hits 2 misses 3/1", []string{"6", "nil"}},
		`table 4; const 5 "b"; raw 4 5 5; drop 4; drop 5`: {"1 hits 1 misses 3/1", []string{"6", "6"}},
		// Another table with the same pairs is a miss; its keys have other numbers.
		`table 4; const 5 "b"; raw 4 5 5; move 0 ~4; drop 5`: {"0 hits 2 misses 5/0", []string{"6", "b"}},
		`const 4 7; box 4 ~4; drop 4`:                        {"1 hits 1 misses 3/1", []string{"6", "6"}},
	} {
		checkCaches(t, fieldTwice(between), x.told, x.gives...)
	}
	// One cache for each place; a value nil out of a table that has no such key is a miss each time.
	checkCaches(t, `table 0; const 1 "a"; const 2 5; raw 0 ~1 2; const 1 "a"; index 1 0 ~1; const 3 "a"; index 3 0 ~3; const 4 "b"; index 4 0 ~4; give 5 r1 r3 r4`, "0 hits 3 misses 2/0 2/0 0/0", "gives 5 5 nil")
	// No table: a miss, and ErrIndex at the second instruction.
	text := `const 0 7; const 1 5; const 1 "a"; index 2 ~0 ~1; give 3 r2`
	checkCaches(t, text, "0 hits 1 misses 0/0", "error 7 at main:0")
	checkCourse(t, text, 2, "c2 | c3 way error t0 at main:0 | c3!error | way error t0 at main:0 | over 1")
	if got := regsBehind(stepsOf(text), 3); got != "nothing, nothing, nothing, nothing" {
		t.Error(got)
	}
	// A jump to its second instruction asks no cache.
	checkCaches(t, `table 0; const 1 "a"; raw 0 1 1; jump @x; const 1 "a"; x: index 2 0 ~1; give 3 r2`, "0 hits 0 misses 0/0", "gives a")
	// The table is taken, and so is nothing else.
	text = `table 0; const 1 "a"; const 2 5; raw 0 ~1 ~2; const 1 "a"; index 2 ~0 ~1; give 3 r2`
	checkCourse(t, text, 4, "c4 | c6 | c7 | c8 | c8!return | given 5 | over 0")
	if got := regsBehind(stepsOf(text), 5); got != "nothing, nothing, value 5, nothing" {
		t.Error(got)
	}
}

// P7: QField with a handler `index`: a fn, a table; the cache is of the table that is read itself.
func TestLoomQuickFieldHandlers(t *testing.T) {
	field := `const 1 "a"; index 2 0 ~1; `
	checkCaches(t, kindedSteps("index", "h")+field+field+"give 3 r2"+tellsArgs("7"), "0 hits 2 misses 0/0 0/0", "table a", "table a", "gives 7")
	checkCaches(t, kindedSteps("index", "rawget")+field+"give 3 r2", "0 hits 1 misses 0/0", "gives nil")
	text := kindedSteps("index", "h") + field + "give 3 r2\nproto h\ngive 0 7"
	checkCourse(t, text, 13, "c14 | c15 a1 c0 | c15 a1 c1 | c15 a1 c2 | c15 a1 c3 | c15 a1 c3!return | c15 a1 given 7 | c15 given 7 | c16 | c17 | c18 | c18!return | given 7 | over 0")
	// Found in the table itself ahead of any handler.
	checkCaches(t, kindedSteps("index", "h")+`const 1 "a"; raw 0 1 1; `+field+"give 3 r2"+tellsArgs("7"), "0 hits 1 misses 4/0", "gives a")
	// In the handler that is a table: never a hit, but read.
	chain := `table 0; table 1; const 2 "a"; raw 1 2 2; const 2 "index"; raw 1 2 1; one 2 setkind r0 ~1; drop 2; const 3 1; const 4 2; const 5 1; for 3; t: fortest 3 @e; tick; ` + field + `drop 2; fornext 3 @t; e: give 6`
	checkCaches(t, chain, "0 hits 2 misses 0/0")
}
