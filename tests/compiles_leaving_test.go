package tests

import (
	"testing"

	"loop.example/heddle/impl"
)

// P6: NBreak and NNext out of blocks with NDefer: from the inside, each is left and then what it holds is dropped.
func TestCompileLeavingDefers(t *testing.T) {
	checkBody(t, lined("while 1 {", "let a", "defer read()", "{", "defer print()", "let b", "break", "}", "next", "}"), `line 1; begin: tick; const 1 1; unless ~1 @exit
		scope 1
		line 2; const 1 nil; keep 2
		line 3; const 2 read; list 3; defer ~2 ~3
		scope 2
		line 5; const 2 print; list 3; defer ~2 ~3
		line 6; const 2 nil; keep 3
		line 7; leave; drop 2; leave; drop 1; jump @exit
		leave; drop 2
		line 9; leave; drop 1; jump @next
		leave; drop 1
		next: at 1; jump @begin; exit:`)
	// A block without a NDefer of its own, around and inside of one that has it, is only emptied.
	checkBody(t, lined("for i = 1, 2, 3 {", "let a", "{", "defer read()", "{let b, c; if b {next}}", "}", "}"), `line 1; const 1 1; const 2 2; const 3 3; for 1
		test: fortest 1 @exit; tick; move 4 1
		line 2; const 5 nil
		scope 6; line 4; const 6 read; list 7; defer ~6 ~7
		line 5; const 6 nil; const 7 nil
		line 5; move 8 6; unless ~8 @else; line 5; drop 6; drop 7; leave; drop 5; drop 4; jump @next
		else: drop 6; drop 7
		leave; drop 5; drop 4
		next: at 1; fornext 1 @test
		exit: drop 1; drop 2; drop 3`)
}

// P6: NBreak and NNext out of the first and the second NBlock of a NTry.
func TestCompileLeavingTries(t *testing.T) {
	checkBody(t, lined("while 1 {", "try {", "let a", "break", "} catch e, t {", "let b", "next", "}", "}"), `line 1; begin: tick; const 1 1; unless ~1 @exit
		line 2; try @handler 1
		line 3; const 1 nil
		line 4; drop 1; endtry; jump @exit
		drop 1; endtry; jump @end
		handler: line 6; const 3 nil
		line 7; drop 3; drop 1; drop 2; jump @next
		drop 3; drop 1; drop 2
		end: next: at 1; jump @begin; exit:`)
	checkBody(t, lined("for i = 1, 2, 3 {", "try {", "defer read()", "try {} catch e, t {", "let b", "if b {break}", "next", "}", "} catch f, u {}", "}"),
		`line 1; const 1 1; const 2 2; const 3 3; for 1
		test: fortest 1 @exit; tick; move 4 1
		line 2; try @outer 5
		scope 5; line 3; const 5 read; list 6; defer ~5 ~6
		line 4; try @inner 5; endtry; jump @behind
		inner: line 5; const 7 nil
		line 6; move 8 7; unless ~8 @else; line 6; drop 7; drop 5; drop 6; leave; endtry; drop 4; jump @exit
		else: line 7; drop 7; drop 5; drop 6; leave; endtry; drop 4; jump @next
		drop 7; drop 5; drop 6
		behind: leave; endtry; jump @end
		outer: drop 5; drop 6
		end: drop 4
		next: at 1; fornext 1 @test
		exit: drop 1; drop 2; drop 3`)
	checkBody(t, lined("for k, v in {} {", "defer read()", "try {break} catch e, t {", "defer read()", "next", "}", "}"), `line 1; table 1; each 1
		test: eachnext 1 @exit 3; pick 4 3 0; pick 5 3 1; drop 3
		scope 6; line 2; const 6 read; list 7; defer ~6 ~7
		line 3; try @handler 6; line 3; endtry; leave; drop 3; drop 4; drop 5; jump @exit
		endtry; jump @end
		handler: scope 8; line 4; const 8 read; list 9; defer ~8 ~9
		line 5; leave; drop 6; drop 7; leave; drop 3; drop 4; drop 5; jump @next
		leave; drop 6; drop 7
		end: leave; drop 3; drop 4; drop 5
		next: at 1; jump @test
		exit: drop 1; drop 2`)
}

// P6: only what stands within the innermost loop is left: guards and registers around it stay.
func TestCompileLeavingInner(t *testing.T) {
	checkBody(t, lined("let x", "try {", "defer read()", "for k in {} {break}", "while x {", "for i = 1, 2, 3 {next}", "break", "}", "} catch e, t {}"), `line 1; const 1 nil
		line 2; try @handler 2; scope 2
		line 3; const 2 read; list 3; defer ~2 ~3
		line 4; table 2; each 2
		test: eachnext 2 @out 4; pick 5 4 0; drop 4; line 4; drop 4; drop 5; jump @out
		drop 4; drop 5; at 4; jump @test
		out: drop 2; drop 3
		line 5; begin: tick; move 2 1; unless ~2 @exit
		line 6; const 2 1; const 3 2; const 4 3; for 2
		count: fortest 2 @done; tick; move 5 2; line 6; drop 5; jump @on
		drop 5
		on: at 6; fornext 2 @count
		done: drop 2; drop 3; drop 4
		line 7; jump @exit
		at 5; jump @begin
		exit: leave; endtry; jump @end
		handler: drop 2; drop 3
		end: drop 1`)
}

// P6: what can never be reached is compiled all the same.
func TestCompileNeverReached(t *testing.T) {
	checkCompiled(t, lined("return 1", "let a = 2", "while a {", "break", "let f = fn() {return a}", "next", "}", "throw 3"), `proto main rest regs=3
		line 1; list 1; const 2 1; add 1 ~2; return ~1
		line 2; const 1 2; box 1 ~1
		line 3; begin: tick; get 2 1; unless ~2 @exit
		line 4; jump @exit
		line 5; fn 2 1
		line 6; drop 2; jump @next
		drop 2
		next: at 3; jump @begin
		exit: line 8; const 2 3; throw ~2
		drop 1; list 1; return ~1
		var a 1 8 25
		var f 2 16 19
		proto _ line=5 ups=r1 regs=2
		line 5; list 0; upget 1 0; add 0 ~1; return ~0; list 0; return ~0`)
}

// P6: a text without statements, a fn without Rest, blocks in blocks; a NBlock has no ILine.
func TestCompileBlocks(t *testing.T) {
	checkCompiled(t, "", "proto main rest regs=2\nlist 1; return ~1")
	checkCompiled(t, "{{}; {}}", "proto main rest regs=2\nlist 1; return ~1")
	checkCompiled(t, "{let a; {let b}; {let c, d}}\nlet e", `proto main rest regs=4
		line 1; const 1 nil
		line 1; const 2 nil; drop 2
		line 1; const 2 nil; const 3 nil; drop 2; drop 3
		drop 1
		line 2; const 1 nil; drop 1
		list 1; return ~1
		var a 1 2 10
		var b 2 4 4
		var c 2 8 8
		var d 3 8 8
		var e 1 13 13`)
	u := impl.Unit{Fns: []impl.Fn{{Name: "n", Line: 7, Vars: []string{"never"}, Nodes: blockTwig().laid()}}}
	checkCompiledUnit(t, "an empty fn", u, "proto n line=7 regs=1\nlist 0; return ~0")
	u.Fns[0].Rest = true
	checkCompiledUnit(t, "an empty fn with Rest", u, "proto n line=7 rest regs=2\nlist 1; return ~1")
	u.Fns[0].Nodes = blockTwig(statTwig(impl.NLet, []int{0})).laid()
	u.Fns[0].Nodes[0].Line = 100000
	checkCompiledUnit(t, "the last line", u, "proto n line=7 rest regs=2\nline 100000; const 1 nil; drop 1; list 1; return ~1\nvar never 1 2 2")
}
