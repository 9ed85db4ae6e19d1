package tests

import (
	"fmt"
	"slices"
	"strings"
	"testing"

	"loop.example/heddle/impl"
)

// P6: targets that lead over one IJump and over several, of each instruction that has a target but ITry.
func TestTidyFollows(t *testing.T) {
	checkTidy(t, "const 0 1; if 0 @a; jump @b; a: jump @c; b: throw 0; c: throw ~0", "const 0 1; if 0 @c; throw 0; c: throw ~0")
	checkTidy(t, "const 0 1; unless 0 @a; throw 0; a: jump @b; c: throw ~0; b: jump @c", "const 0 1; unless 0 @c; throw 0; c: throw ~0")
	checkTidy(t, "const 0 1; unless 0 @a; throw 0; a: jump @b; d: throw ~0; c: jump @d; b: jump @c", "const 0 1; unless 0 @d; throw 0; d: throw ~0")
	checkTidy(t, "const 0 1; const 1 1; const 2 1; test: fortest 0 @out; tick; fornext 0 @back; throw 0; out: jump @end; back: jump @test; end: throw 1",
		"const 0 1; const 1 1; const 2 1; test: fortest 0 @end; tick; fornext 0 @test; throw 0; end: throw 1")
	checkTidy(t, "table 0; each 0; test: eachnext 0 @out 2; drop 2; jump @back; out: jump @end; back: jump @test; end: throw 0",
		"table 0; each 0; test: eachnext 0 @end 2; drop 2; jump @test; end: throw 0")
	// A jump's own target is followed as well, by the targets as they stood at first.
	checkTidy(t, "const 0 1; if 0 @a; tick; jump @a; throw 0; a: jump @b; throw 0; b: jump @c; throw 0; c: throw ~0", "const 0 1; if 0 @c; tick; c: throw ~0")
}

// P6: IJumps that lead round: with an ITick in the ring the way ends there; a ring that nothing reaches goes.
func TestTidyRings(t *testing.T) {
	checkTidy(t, "jump @a; b: jump @c; a: jump @b; c: tick; jump @a", "jump @c; c: tick; jump @c")
	checkTidy(t, "const 0 1; if 0 @a; b: tick; a: jump @c; d: jump @b; c: jump @d", "const 0 1; if 0 @b; b: tick; jump @b")
	checkTidy(t, "list 0; return ~0; a: jump @b; b: jump @a", "list 0; return ~0")
	checkTidy(t, "list 0; return ~0; a: jump @a", "list 0; return ~0")
	checkTidy(t, "begin: tick; jump @begin", "begin: tick; jump @begin")
	checkTidy(t, "jump @begin; begin: tick; jump @on; on: jump @begin", "jump @begin; begin: tick; jump @begin")
}

// chain: a choice whose target leads over so many IJumps, the last of them back.
func chain(count int) string {
	b := strings.Builder{}
	fmt.Fprintf(&b, "const 0 1; if 0 @j1; j%d: throw ~0", count+1)
	for n := count; n > 0; n-- {
		fmt.Fprintf(&b, "; j%d: jump @j%d", n, n+1)
	}
	return b.String()
}

// P6: a target is followed over 100 IJumps and no more.
func TestTidyHundred(t *testing.T) {
	const all, most = "const 0 1; if 0 @end; end: throw ~0", "const 0 1; if 0 @j; end: throw ~0; j: jump @end"
	for count, want := range map[int]string{0: all, 1: all, 2: all, 99: all, 100: all, 101: most, 102: most, 200: most, 201: most} {
		checkTidy(t, chain(count), want)
	}
	// The IJump behind a hundred others leads on by 100 at most itself; what is left over is followed when the code is tidied again.
	checkTidy(t, chain(202), "const 0 1; if 0 @j; end: throw ~0; k: jump @end; j: jump @k")
	code := stepsOf(chain(202))
	for _, want := range []string{"const 0 1; if 0 @j; end: throw ~0; k: jump @end; j: jump @k", all, all} {
		code = tidyCode(t, "again", code)
		if got := codeTold(code); got != codeTold(stepsOf(want)) {
			t.Errorf("%s, want %s", got, want)
		}
	}
	// A jump of such a chain that leads to the next one that is left goes, and what leads to it leads there.
	checkTidy(t, strings.Replace(strings.Replace(chain(101), "j102: throw ~0", "throw ~0", 1), "@j102", "@end", 1)+"; end: throw 0", "const 0 1; if 0 @end; throw ~0; end: throw 0")
}

// P6: what is next is told by what can be reached, though it goes as an idle IJump itself.
func TestTidyIdleBehindIdle(t *testing.T) {
	text := "const 0 1; if 0 @j1; jump @end; j101: jump @end; end: throw ~0"
	for n := 100; n > 0; n-- {
		text += fmt.Sprintf("; j%d: jump @j%d", n, n+1)
	}
	checkTidy(t, text, "const 0 1; if 0 @end; jump @end; end: throw ~0")
}

// P6: an ITry goes on at its handler, whatever that is.
func TestTidyHandlers(t *testing.T) {
	// The handler is an IJump that leads on to the next one.
	checkTidy(t, "line 1; try @h 0; const 0 1; throw ~0; h: jump @a; a: jump @b; b: throw 0", "line 1; try @h 0; const 0 1; throw ~0; h: jump @b; b: throw 0")
	// It leads elsewhere; others that lead to it are followed all the same.
	checkTidy(t, "line 1; try @h 0; const 0 1; const 1 1; if 0 @j; throw ~0; h: jump @a; x: throw 0; a: throw 1; j: endtry; jump @h",
		"line 1; try @h 0; const 0 1; const 1 1; if 0 @j; throw ~0; h: jump @a; a: throw 1; j: endtry; jump @a")
	// An ITry that nothing reaches holds no jump; here its handler is reached by an IIf.
	checkTidy(t, "const 0 1; const 1 1; if 0 @h; jump @h; try @h 0; endtry; h: jump @a; a: throw 0", "const 0 1; const 1 1; if 0 @a; a: throw 0")
	checkTidy(t, "const 0 1; const 1 1; h: jump @a; a: throw 0; try @h 0; endtry; throw 0", "const 0 1; const 1 1; throw 0")
	// The same with one that is reached.
	checkTidy(t, "try @h 0; const 0 1; const 1 1; endtry; if 0 @h; jump @h; h: jump @a; a: throw 0", "try @h 0; const 0 1; const 1 1; endtry; if 0 @a; jump @a; h: jump @a; a: throw 0")
}

// P6: instructions that can't be reached go, at the end and in the midst, with what leads from one of them to the other.
func TestTidyUnreached(t *testing.T) {
	checkTidy(t, "const 0 1; throw ~0; tick; throw 0", "const 0 1; throw ~0")
	checkTidy(t, "const 0 1; jump @a; tick; const 0 1; a: throw ~0", "const 0 1; throw ~0")
	checkTidy(t, "const 0 1; tick; throw ~0; b: const 0 1; if 0 @b; jump @c; tick; c: jump @b", "const 0 1; tick; throw ~0")
	checkTidy(t, "const 0 1; if 0 @a; list 1; return ~1; drop 0; jump @b; a: throw ~0; b: list 1; return ~1", "const 0 1; if 0 @a; list 1; return ~1; a: throw ~0")
	// An ITry that is reached holds its handler, though nothing throws; one that is not does not.
	checkTidy(t, "proto main regs=2\ntry @h 0; endtry; list 0; return ~0; h: throw 0", "proto main regs=2\ntry @h 0; endtry; list 0; return ~0; h: throw 0")
	checkTidy(t, "proto main regs=2\nlist 0; return ~0; try @h 0; endtry; list 0; return ~0; h: throw 0", "proto main regs=2\nlist 0; return ~0")
}

// P6: with an IFn among what can't be reached a proto stays as it was, its jumps too; the others are tidied.
func TestTidyUnreachedFn(t *testing.T) {
	const inner = `
		proto f
		tick; jump @x; x: jump @y; y: list 0; return ~0
		proto g
		jump @x; fn 0 h; x: jump @y; y: list 0; return ~0
		proto h
		list 0; jump @x; x: return ~0`
	const tidied = `
		proto f
		tick; list 0; return ~0
		proto g
		jump @x; fn 0 h; x: jump @y; y: list 0; return ~0
		proto h
		list 0; return ~0`
	const main = "proto main\nconst 0 1; fn 1 g; drop 1; if 0 @a; jump @b; fn 1 f; drop 1; a: jump @b; b: throw ~0\nvar x 0 1 8"
	checkTidy(t, main+inner, main+tidied)
	// Reached, it holds nothing back.
	checkTidy(t, "proto main\nconst 0 1; fn 1 g; drop 1; if 0 @a; fn 1 f; drop 1; a: jump @b; b: throw ~0\nvar x 0 1 8"+inner,
		"proto main\nconst 0 1; fn 1 g; drop 1; if 0 @b; fn 1 f; drop 1; b: throw ~0\nvar x 0 1 7"+tidied)
}

// P6: IJumps to the next instruction that is left go, but not the first one; what leads to the next in another way stays.
func TestTidyIdleJumps(t *testing.T) {
	checkTidy(t, "tick; jump @a; a: list 0; return ~0", "tick; list 0; return ~0")
	checkTidy(t, "tick; jump @a; a: jump @b; b: list 0; return ~0", "tick; list 0; return ~0")
	checkTidy(t, "tick; jump @a; tick; jump @a; tick; a: list 0; return ~0", "tick; list 0; return ~0")
	for _, text := range []string{
		"jump @a; a: list 0; return ~0",
		"const 0 1; if 0 @m; jump @e; m: tick; e: throw ~0",
		"const 0 1; if 0 @a; a: throw ~0",
		"const 0 1; unless 0 @a; a: throw ~0",
		"const 0 1; a: tick; if 0 @b; jump @a; b: throw ~0",
		"const 0 1; const 1 1; const 2 1; for 0; fortest 0 @a; a: fornext 0 @b; b: throw ~0",
		"table 0; each 0; list 2; a: tick; eachnext 0 @b 2; b: tick; jump @a",
	} {
		checkTidy(t, text, text)
	}
	checkTidy(t, "jump @b; tick; b: list 0; return ~0", "jump @b; b: list 0; return ~0")
	checkTidy(t, "jump @b; c: list 0; return ~0; b: jump @c", "jump @c; c: list 0; return ~0")
	// Instruction 0 stays when there is a way back to it, too.
	checkTidy(t, "begin: jump @a; a: tick; jump @begin", "begin: jump @a; a: tick; jump @a")
	checkTidy(t, "begin: jump @a; a: tick; list 0; drop 0; jump @b; b: jump @begin", "begin: jump @a; a: tick; list 0; drop 0; jump @a")
}

// P6: targets, From and To become the numbers of what is kept ahead of what they named, at the end of the proto too.
func TestTidyNumbers(t *testing.T) {
	text := "const 0 1; jump @3; tick; 3: if 0 @5; jump @6; 5: jump @6; 6: throw ~0"
	want := "const 0 1; if 0 @6; 6: throw ~0"
	ahead := []int{0, 1, 1, 1, 2, 2, 2, 3}
	for from := range ahead {
		for to := from; to < len(ahead); to++ {
			text += fmt.Sprintf("\nvar v 0 %d %d", from, to)
			want += fmt.Sprintf("\nvar v 0 %d %d", ahead[from], ahead[to])
		}
	}
	checkTidy(t, text, want)
}

// P6: all else of a proto stays: its head, and consts and variables that nobody uses any more.
func TestTidyKeeps(t *testing.T) {
	code := stepsOf(`proto main line=7 rest regs=9
		const 1 1; box 1 ~1; fn 2 f; throw ~2; const 3 "never"; throw ~3
		var x 1 2 6
		var never 8 6 6
		proto f line=100000 params=2 rest ups=r1,r1 regs=5
		upget 3 1; throw ~3; const 4 -0.0; throw ~4`)
	want := stepsOf(`proto main line=7 rest regs=9
		const 1 1; box 1 ~1; fn 2 f; throw ~2
		var x 1 2 4
		var never 8 4 4
		proto f line=100000 params=2 rest ups=r1,r1 regs=5
		upget 3 1; throw ~3`)
	want.Protos[0].Consts = []impl.Value{vInt(1), vStr("never")}
	want.Protos[1].Consts = []impl.Value{vFlt(minusZero)}
	if got := tidyCode(t, "kept", code); codeTold(got) != codeTold(want) {
		t.Errorf("%s, want %s", codeTold(got), codeTold(want))
	}
}

// P6: the zero value for a code that is not verified, by each code of CheckShape and CheckCode.
func TestTidyNotVerified(t *testing.T) {
	for told, c := range notVerified(t) {
		before := codeTold(c)
		if got := impl.Tidy(c); len(got.Protos) != 0 {
			t.Errorf("%s: %s", told, codeTold(got))
		}
		if codeTold(c) != before {
			t.Errorf("%s: the code has changed", told)
		}
	}
}

// P6: compiled texts, tidied.
func TestTidyCompiled(t *testing.T) {
	for text, want := range map[string]string{
		"if 1 {} else {}":                "line 1; const 1 1; unless ~1 @end; end: list 1; return ~1",
		"if 1 {return} else {return}":    "line 1; const 1 1; unless ~1 @else; line 1; list 1; return ~1; else: line 1; list 1; return ~1",
		"while 1 {}":                     "line 1; begin: tick; const 1 1; unless ~1 @exit; at 1; jump @begin; exit: list 1; return ~1",
		"while 1 {break}":                "line 1; tick; const 1 1; unless ~1 @exit; line 1; exit: list 1; return ~1",
		"while 1 {next}":                 "line 1; begin: tick; const 1 1; unless ~1 @exit; line 1; at 1; jump @begin; exit: list 1; return ~1",
		"try {} catch e, t {}":           "line 1; try @handler 1; endtry; jump @end; handler: drop 1; drop 2; end: list 1; return ~1",
		"while 1 {\nif 2 {next}\nbreak}": "line 1; begin: tick; const 1 1; unless ~1 @exit; line 2; const 1 2; unless ~1 @else; line 2; jump @next; else: line 3; jump @exit; next: at 1; jump @begin; exit: list 1; return ~1",
		"return 1\nprint(2)":             "line 1; list 1; const 2 1; add 1 ~2; return ~1",
	} {
		got := tidyCode(t, text, compiled(t, text, boundText(t, text))).Protos[0].Ins
		if wanted := stepsOf("proto main rest\n" + want).Protos[0].Ins; !slices.Equal(got, wanted) {
			t.Errorf("%s: %v, want %v", text, got, wanted)
		}
	}
}

// P6: no text of an answer lies in the memory of an argument's or of another answer's, nor does a list.
func TestCompiledShareNothing(t *testing.T) {
	u := boundText(t, "let long = \"a text\", \"a text\"\nfn name(param, ...) {return long, \"another\", param, ...}\nreturn 1\nprint(long)")
	first, second := impl.Compile(u).Made, impl.Compile(u).Made
	third, fourth := impl.Tidy(first), impl.Tidy(first)
	for i, pair := range [][2][]string{
		{unitTexts(u), codeTexts(first)}, {codeTexts(first), codeTexts(second)}, {unitTexts(u), codeTexts(third)}, {codeTexts(first), codeTexts(third)},
		{codeTexts(third), codeTexts(fourth)},
	} {
		if sharedTexts(pair[0], pair[1]) {
			t.Error("shared:", i)
		}
	}
	// One list of an answer is no piece of another's memory.
	for told, c := range map[string]impl.Code{"compiled": first, "tidied": third} {
		want := codeTold(c)
		for n := range c.Protos {
			p := &c.Protos[n]
			_ = append(p.Ups, impl.Up{Index: 9})
			_ = append(p.Consts, vInt(9))
			_ = append(p.Ins, impl.Ins{Op: 9})
			_ = append(p.Named, impl.Named{Name: "9"})
		}
		_ = append(c.Protos, impl.Proto{Name: "9"})
		if codeTold(c) != want {
			t.Error(told, "lists share memory")
		}
	}
	homes, captured := impl.Homes(u, 0), impl.Captured(u, 0)
	homes[0], captured[0] = -9, !captured[0]
	checkPlans(t, "written into", u)
	compiled(t, "written into", u)
}
