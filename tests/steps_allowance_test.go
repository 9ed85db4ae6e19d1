package tests

import (
	"fmt"
	"slices"
	"strings"
	"testing"

	"loop.example/heddle/impl"
)

// checkStepTicks: a code needs so many ticks; recs tells how many records there are when the ticks are used up, from no ticks on.
func checkStepTicks(t *testing.T, text string, recs ...int) {
	t.Helper()
	c := stepsOf(text)
	whole := ranCode(t, text, c, plenty())
	ticks := len(recs) - 1
	if whole.Code != 0 || whole.Ticks != ticks {
		t.Errorf("%s: code %d, %d ticks, want %d", text, whole.Code, whole.Ticks, ticks)
		return
	}
	for n, count := range recs {
		in := plenty()
		in.Ticks = n
		r := ranCode(t, text, c, in)
		code := 2
		if n == ticks {
			code = 0
		}
		if r.Code != code || r.Ticks != n || len(r.Recs) != count || !slices.Equal(r.Recs, whole.Recs[:min(count, len(whole.Recs))]) {
			t.Errorf("%s, %d ticks: code %d, %d used, records %v", text, n, r.Code, r.Ticks, stepsTold(r))
		}
		if code == 2 && (len(r.Vals) > 0 || r.Error != "" || r.Trace != "") {
			t.Errorf("%s, %d ticks: %+v", text, n, withoutRecs(r))
		}
	}
}

// P5: what a tick is due for, and that nothing is done or recorded when there is none left.
func TestStepTicks(t *testing.T) {
	checkStepTicks(t, "at 1; give 0 1 2", 0)
	checkStepTicks(t, "line 1; line 2; give 0", 0, 1, 2)
	checkStepTicks(t, "tick; line 1; tick; give 0", 0, 0, 1, 1)
	checkStepTicks(t, "say 0; line 1; say 0; give 0", 0, 1, 2, 3)
	// A call: ahead of its record, and ahead of what a builtin does.
	checkStepTicks(t, "proto main\nfn 0 f; do 1 r0; return 1\nproto f\nline 3; give 0", 0, 1, 3)
	checkStepTicks(t, `one 0 read; one 1 type r0; give 2 r1`, 0, 0, 0)
	// A table that is called costs one for itself and one for each handler.
	checkStepTicks(t, `table 0; table 1; const 2 "call"; const 3 print; raw 1 2 3; one 2 setkind r0 r1; do 3 r0 5; line 7; give 4`, 0, 0, 0, 1, 2)
	// A handler is a call.
	checkStepTicks(t, `table 0; table 1; const 2 "add"; const 3 print; raw 1 2 3; one 2 setkind r0 r1; binary 3 add 0 0; line 7; give 4`, 0, 0, 1, 2)
	// OpJoin has one of its own, ahead of its handler's, whether it throws or not.
	checkStepTicks(t, `const 0 "a"; binary 1 join 0 0; line 1; binary 1 join 0 0; give 2`, 0, 0, 1, 1)
	checkStepTicks(t, `table 0; table 1; const 2 "join"; const 3 print; raw 1 2 3; one 2 setkind r0 r1; binary 3 join 0 0; give 4`, 0, 0, 0, 1)
	checkStepTicks(t, `const 0 nil; try @h 1; binary 1 join 0 0; endtry; give 1; h: line 2; give 3`, 0, 2, 3)
	// A turn over a table, but not the end of it; over a fn the turn and its call, at its end too.
	checkStepTicks(t, `table 0; const 2 1; raw 0 2 2; const 3 2; raw 0 3 3; drop 2; drop 3; each 0; n: eachnext 0 @e 2; say 3 7; drop 2; jump @n; e: line 1; give 2`, 0, 0, 1, 1, 2, 3)
	checkStepTicks(t, `const 0 read; each 0; n: eachnext 0 @e 2; say 3 7; drop 2; jump @n; e: line 1; give 2`, 0, 0, 0, 1)
	checkStepTicks(t, "proto main\nconst 0 1; box 0 ~0; fn 1 f; each 1; n: eachnext 1 @e 3; drop 3; jump @n; e: line 1; give 3\n"+
		"proto f ups=r0\nupget 0 0; const 1 nil; upput 0 1; give 2 r0", 0, 0, 2, 2, 4, 5)
	// Each defer is a call.
	checkStepTicks(t, "scope 0; later 0 print 1; later 0 print 2; leave; line 1; give 0", 0, 1, 2, 3)
	checkStepTicks(t, "scope 0; later 0 print 1; later 0 print 2; give 0", 0, 1, 2)
	// A task's fn, a yield, a last word.
	checkStepTicks(t, "proto main\nfn 0 f; one 1 task r0; do 2 resume r1; do 3 resume r1; line 9; give 4\nproto f\ndo 0 yield; line 5; give 1", 0, 0, 1, 2, 3, 4, 5+2, 8)
	checkStepTicks(t, `proto main
fn 0 f; table 1; const 2 "last"; raw 1 2 ~0; table 0; one 2 setkind r0 r1; drop 2; drop 0; do 2 collect; line 9; give 3
proto f
line 5; give 0`, 0, 0, 1, 2, 4, 5)
}

// P5: MaxRecs records are made, and no more: met exactly the run goes on to its end.
func TestStepRecords(t *testing.T) {
	t.Parallel()
	code := func(turns, more int) impl.Code {
		text := fmt.Sprintf("const 0 1; const 1 %d; const 2 1; for 0; t: fortest 0 @e; tick", turns)
		for i := range 1000 {
			text += fmt.Sprintf("; const 3 7; try @h%d 3; throw 3; h%d: drop 3; drop 4", i, i)
		}
		return stepsOf(text + "; fornext 0 @t; e: tick" + strings.Repeat("; const 3 print; list 4; call 3 3 4; drop 3; drop 4", more) + "; give 3 1")
	}
	in := plenty()
	for more, want := range []int{0, 2, 2} {
		c := code(50, more)
		r := impl.RunCode(c, in)
		if r.Code != want || len(r.Recs) != impl.MaxRecs || r.Ticks != 51+min(more, 1) || (want == 0) != slices.Equal(r.Vals, []string{"1"}) {
			t.Errorf("%d more: %d records, %+v", more, len(r.Recs), withoutRecs(r))
		}
		checkStepsPlain(t, fmt.Sprint(more, " more"), c, in, false)
		last := impl.LookCode(c, in, impl.MaxRecs-1)
		if !last.Ok || impl.LookCode(c, in, impl.MaxRecs).Ok {
			t.Errorf("%d more: %+v", more, last)
		}
	}
	r := impl.RunCode(code(49, 2), in)
	if r.Code != 0 || len(r.Recs) != 98002 || r.Ticks != 52 {
		t.Errorf("%d records, %+v", len(r.Recs), withoutRecs(r))
	}
}

// checkStepCells: a code makes so many cells; with one less it is ErrCells, and one less was made.
func checkStepCells(t *testing.T, text string, cells int) {
	t.Helper()
	c := stepsOf(text)
	for _, n := range []int{cells + 1, cells, cells - 1} {
		if n < 0 {
			continue
		}
		in := plenty()
		in.Cells = n
		r := ranCode(t, text, c, in)
		if n >= cells && (r.Code != 0 || r.Made != cells) || n < cells && (r.Code != 1 || r.Error != "error 9" || r.Made > n) {
			t.Errorf("%s, %d cells: %+v", text, n, withoutRecs(r))
		}
	}
}

// P5: what makes cells: tables, pairs that come, fns and their Ups, tasks; boxes, lists and errors make none.
func TestStepCells(t *testing.T) {
	checkStepCells(t, `const 0 1; box 0 ~0; list 1; const 2 "a"; binary 2 join 2 2; give 3`, 0)
	checkStepCells(t, "table 0; give 1", 1)
	checkStepCells(t, "table 0; table 0; give 1", 2)
	checkStepCells(t, `table 0; const 1 1; raw 0 1 1; raw 0 1 1; const 2 nil; raw 0 1 2; raw 0 1 2; set 0 1 1; set 0 1 1; give 3`, 3)
	checkStepCells(t, `table 0; const 1 1; list 2; add 2 1; const 3 nil; add 2 3; add 2 1; rawall 0 1 2; rawall 0 1 ~2; give 2`, 3)
	checkStepCells(t, `table 0; do 1 rawset r0 1 2; do 1 rawset r0 1 3; do 1 rawset r0 2; do 1 rawset r0 3 4; give 2`, 3)
	checkStepCells(t, "proto main\nfn 0 f; give 1\nproto f\ngive 0", 1)
	checkStepCells(t, "proto main\nconst 0 1; box 0 ~0; const 1 2; box 1 ~1; fn 2 f; give 3\nproto f ups=r0,r1,r0\ngive 0", 4)
	checkStepCells(t, "proto main\nfn 0 f; one 1 task r0; one 1 task r0; give 2\nproto f\ngive 0", 3)
	r := ranCode(t, "an error", stepsOf("const 0 nil; try @h 1; unary 1 neg 0; endtry; give 1; h: give 3 r1"), impl.Input{Ticks: 9, Depth: 1})
	if r.Made != 0 || !slices.Equal(r.Vals, []string{"table"}) {
		t.Errorf("%+v", r)
	}
}

// P5: with ErrCells nothing is made, and nothing is put.
func TestStepCellsNothingMade(t *testing.T) {
	caught := func(do string) string {
		return `const 6 "code"; ` + do + `; endtry; give 9 "never"; h: index 7 ~7 6; drop 8; `
	}
	for text, want := range map[string]string{
		caught("table 0; const 1 5; try @h 7; table 1") + "give 9 r7 r1":                                                   "9 5",
		caught("table 0; const 1 5; try @h 7; raw 0 1 1") + "index 1 0 1; give 9 r7 r1":                                    "9 nil",
		caught("table 0; const 1 5; try @h 7; set 0 1 1") + "index 1 0 1; unary 2 len 0; give 9 r7 r1 r2":                  "9 nil 0",
		"proto main\n" + caught("table 0; const 1 5; try @h 7; fn 1 f") + "give 9 r7 r1\nproto f\ngive 0":                  "9 5",
		"proto main\n" + caught("fn 0 f; const 1 5; try @h 7; do 8 task r0; first 1 ~8") + "give 9 r7 r1\nproto f\ngive 0": "9 5",
	} {
		in := plenty()
		in.Cells = 1
		r := ranCode(t, text, stepsOf(text), in)
		checkShown(t, text, r.Vals, strings.Fields(want))
		if r.Made != 1 {
			t.Errorf("%s: made %d", text, r.Made)
		}
	}
	// One cell is left, and two are wanted: none is taken.
	text := "proto main\nconst 0 1; box 0 ~0; try @h 1; fn 1 f; endtry; give 1 \"never\"; h: drop 1; drop 2; table 1; give 2 r1\nproto f ups=r0\ngive 0"
	r := ranCode(t, text, stepsOf(text), impl.Input{Ticks: 9, Depth: 1, Cells: 1})
	if r.Made != 1 || !slices.Equal(r.Vals, []string{"table"}) {
		t.Errorf("%+v", r)
	}
}

// P5: every other error of the same operation comes ahead of ErrCells.
func TestStepCellsComeLast(t *testing.T) {
	full := "table 0; const 1 1; const 2 500; const 3 1; for 1; t: fortest 1 @e; tick; raw 0 1 1; fornext 1 @t; e: line 4; "
	for _, x := range []struct {
		text  string
		cells int
		code  int
	}{
		{"const 0 7; const 1 1; raw 0 1 1", 0, impl.ErrIndex},
		{"table 0; const 1 nil; raw 0 1 0", 1, impl.ErrKey},
		{"table 0; const 1 nil; set 0 1 0", 1, impl.ErrKey},
		{"table 0; list 1; add 1 0; const 2 nil; rawall 0 2 1", 1, impl.ErrKey},
		{"table 0; do 1 rawset r0 nil 1", 1, impl.ErrKey},
		{"do 1 rawset 7 nil 1", 0, impl.ErrArgs},
		{"do 1 task 7", 0, impl.ErrArgs},
		{"do 1 task print", 0, impl.ErrArgs},
		{full + "const 5 501; raw 0 5 5", 501, impl.ErrLong},
		{full + "const 5 501; set 0 5 5", 501, impl.ErrLong},
		{full + "const 5 500; raw 0 5 5", 501, 0},
		{full + "const 5 nil; raw 0 2 5; raw 0 2 2", 501, impl.ErrCells},
		{"table 0; const 1 1; raw 0 1 1", 1, impl.ErrCells},
		{"table 0; const 1 nil; const 2 3; raw 0 2 1", 1, 0},
	} {
		in := plenty()
		in.Cells = x.cells
		text := "proto main regs=8\nline 4; " + x.text + "; give 6"
		told := stepsTold(ranCode(t, text, stepsOf(text), in))
		want := "gives"
		if x.code > 0 {
			want = fmt.Sprintf("error %d at main:4", x.code)
		}
		if told[len(told)-1] != want {
			t.Errorf("%s: %v, want %s", text, told[len(told)-1], want)
		}
	}
	// MaxTasks comes ahead of the cells.
	text := "proto main\nfn 0 f; const 1 1; const 2 100; const 3 1; for 1; t: fortest 1 @e; tick; one 4 task r0; drop 4; fornext 1 @t; e: do 4 task r0; give 5\nproto f\ngive 0"
	in := plenty()
	in.Cells = 101
	if r := ranCode(t, text, stepsOf(text), in); r.Error != "error 10" || r.Made != 101 {
		t.Errorf("%+v", withoutRecs(r))
	}
	in.Cells = 100
	if r := ranCode(t, text, stepsOf(text), in); r.Error != "error 9" || r.Made != 100 {
		t.Errorf("%+v", withoutRecs(r))
	}
}

// P5: behind a collect what lives is what it counted; all that was made counts in Made.
func TestStepCellsBehindCollect(t *testing.T) {
	text := `table 0; table 1; table 1; const 2 7; raw 1 2 2; one 2 cells; say 3 r2; one 2 collect; say 3 r2
table 2; drop 2; try @a 2; table 2; endtry; give 2 "never"; a: drop 3; drop 2; drop 1; one 1 collect; say 2 r1; drop 1
table 1; table 1; table 1; try @b 1; table 1; endtry; give 2 "never"; b: drop 2; drop 1; one 1 collect; say 2 r1; one 1 cells; give 2 r1`
	in := plenty()
	in.Cells = 4
	r := ranCode(t, text, stepsOf(text), in)
	checkShown(t, text, saysOf(r), []string{"3", "3", "1", "1", "gives 1"})
	if r.Made != 4+1+3 {
		t.Error(r.Made)
	}
}
