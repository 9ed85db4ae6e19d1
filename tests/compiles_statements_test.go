package tests

import "testing"

// P6: NLet with as many expressions as variables, fewer, more and none; only one of one is without a list.
func TestCompileLet(t *testing.T) {
	checkCompiled(t, "let a = 1", `proto main rest regs=2
		line 1; const 1 1; drop 1; list 1; return ~1
		var a 1 2 2`)
	checkCompiled(t, "let a", `proto main rest regs=2
		line 1; const 1 nil; drop 1; list 1; return ~1
		var a 1 2 2`)
	checkCompiled(t, "let a, b, c", `proto main rest regs=4
		line 1; const 1 nil; const 2 nil; const 3 nil; drop 1; drop 2; drop 3; list 1; return ~1
		var a 1 4 4
		var b 2 4 4
		var c 3 4 4`)
	checkCompiled(t, "let a, b = 1", `proto main rest regs=5
		line 1; list 3; const 4 1; add 3 ~4; pick 1 3 0; pick 2 3 1; drop 3; drop 1; drop 2; list 1; return ~1
		var a 1 7 7
		var b 2 7 7`)
	checkCompiled(t, "let a = 1, 2", `proto main rest regs=4
		line 1; list 2; const 3 1; add 2 ~3; const 3 2; add 2 ~3; pick 1 2 0; drop 2; drop 1; list 1; return ~1
		var a 1 8 8`)
	checkCompiled(t, "let a, b = 1, read()", `proto main rest regs=6
		line 1; list 3; const 4 1; add 3 ~4; const 4 read; list 5; call 4 ~4 ~5; join 3 ~4; pick 1 3 0; pick 2 3 1; drop 3; drop 1; drop 2; list 1; return ~1
		var a 1 11 11
		var b 2 11 11`)
	checkCompiled(t, "let a = read()", `proto main rest regs=3
		line 1; const 1 read; list 2; call 1 ~1 ~2; first 1 ~1; drop 1; list 1; return ~1
		var a 1 5 5`)
}

// P6: boxes come when all values of a NLet are in their homes, and names behind them.
func TestCompileLetBoxes(t *testing.T) {
	checkCompiled(t, "let a, b, c\nlet d = 1\nreturn fn() {return c, a, d}", `proto main rest regs=7
		line 1; const 1 nil; const 2 nil; const 3 nil; box 1 ~1; box 3 ~3
		line 2; const 4 1; box 4 ~4
		line 3; list 5; fn 6 1; add 5 ~6; return ~5
		drop 1; drop 2; drop 3; drop 4; list 1; return ~1
		var a 1 6 14
		var b 2 6 14
		var c 3 6 14
		var d 4 9 14
		proto _ line=3 ups=r3,r1,r4 regs=2
		line 3; list 0; upget 1 0; add 0 ~1; upget 1 1; add 0 ~1; upget 1 2; add 0 ~1; return ~0; list 0; return ~0`)
}

// P6: NSet of one target, of each of the three kinds, with one expression and with several.
func TestCompileSet(t *testing.T) {
	const head = "line 1; const 1 1\nline 2; "
	const tail = "drop 1"
	checkBody(t, "let a = 1\na = 2", head+"const 2 2; move 1 ~2;"+tail)
	checkBody(t, "let a = 1\na = 2, 3", head+"list 3; const 4 2; add 3 ~4; const 4 3; add 3 ~4; pick 2 3 0; drop 3; move 1 ~2;"+tail)
	checkBody(t, "let a = 1\na = read()", head+"const 2 read; list 3; call 2 ~2 ~3; first 2 ~2; move 1 ~2;"+tail)
	checkBody(t, "let a = 1\na[2] = 3", head+"move 2 1; const 3 2; const 4 3; set ~2 ~3 ~4;"+tail)
	checkBody(t, "let a = 1\na.b.c = a", head+`move 2 1; const 3 "b"; index 2 ~2 ~3; const 3 "c"; move 4 1; set ~2 ~3 ~4;`+tail)
	checkCompiled(t, "let a = 1\na = fn() {a = 2; a = a, 3}", `proto main rest regs=3
		line 1; const 1 1; box 1 ~1
		line 2; fn 2 1; put 1 ~2
		drop 1; list 1; return ~1
		var a 1 3 6
		proto _ line=2 ups=r1 regs=3
		line 2; const 0 2; upput 0 ~0
		line 2; list 1; upget 2 0; add 1 ~2; const 2 3; add 1 ~2; pick 0 1 0; drop 1; upput 0 ~0
		list 0; return ~0`)
}

// P6: NSet of several targets: the parts of places come first, in order; then the values; then each target takes its own.
func TestCompileSetMany(t *testing.T) {
	checkBody(t, "let a, b\na, b = b, a", `line 1; const 1 nil; const 2 nil
		line 2; list 5; move 6 2; add 5 ~6; move 6 1; add 5 ~6; pick 3 5 0; pick 4 5 1; drop 5; move 1 ~3; move 2 ~4
		drop 1; drop 2`)
	checkBody(t, "let a\na[1], a, a[2][3] = 4", `line 1; const 1 nil
		line 2; move 2 1; const 3 1; move 4 1; const 5 2; index 4 ~4 ~5; const 5 3
		list 9; const 10 4; add 9 ~10; pick 6 9 0; pick 7 9 1; pick 8 9 2; drop 9
		set ~2 ~3 ~6; move 1 ~7; set ~4 ~5 ~8
		drop 1`)
	checkCompiled(t, lined("let u", "fn f(p) {", "let c", "u, c, p, p.k = 1, read()", "return fn() {return c}", "}"), `proto main rest regs=4
		line 1; const 1 nil; box 1 ~1
		line 2; const 2 nil; line 2; fn 3 1; move 2 ~3
		drop 1; drop 2; list 1; return ~1
		var u 1 3 8
		var f 2 5 8
		proto f line=2 params=1 ups=r1 regs=11
		line 3; const 1 nil; box 1 ~1
		line 4; move 2 0; const 3 "k"
		list 8; const 9 1; add 8 ~9; const 9 read; list 10; call 9 ~9 ~10; join 8 ~9
		pick 4 8 0; pick 5 8 1; pick 6 8 2; pick 7 8 3; drop 8
		upput 0 ~4; put 1 ~5; move 0 ~6; set ~2 ~3 ~7
		line 5; list 2; fn 3 2; add 2 ~3; return ~2
		drop 1; list 1; return ~1
		var p 0 0 30
		var c 1 3 27
		proto _ line=5 ups=r1 regs=2
		line 5; list 0; upget 1 0; add 0 ~1; return ~0; list 0; return ~0`)
}

// P6: a place in Ups is no variable, though there is one of its number, in a box or not.
func TestCompileSetUps(t *testing.T) {
	checkCompiled(t, lined("let u, w", "fn f(p, q) {", "u, p, w, q = 1", "return fn() {return p}", "}"), `proto main rest regs=5
		line 1; const 1 nil; const 2 nil; box 1 ~1; box 2 ~2
		line 2; const 3 nil; line 2; fn 4 1; move 3 ~4
		drop 1; drop 2; drop 3; list 1; return ~1
		var u 1 5 10
		var w 2 5 10
		var f 3 7 10
		proto f line=2 params=2 ups=r1,r2 regs=8
		box 0 ~0
		line 3; list 6; const 7 1; add 6 ~7; pick 2 6 0; pick 3 6 1; pick 4 6 2; pick 5 6 3; drop 6
		upput 0 ~2; put 0 ~3; upput 1 ~4; move 1 ~5
		line 4; list 2; fn 3 2; add 2 ~3; return ~2
		list 2; return ~2
		var p 0 0 21
		var q 1 0 21
		proto _ line=4 ups=r0 regs=2
		line 4; list 0; upget 1 0; add 0 ~1; return ~0; list 0; return ~0`)
}

// P6: a call as a statement, and what it gives dropped.
func TestCompileDo(t *testing.T) {
	checkCompiled(t, "print(1)\nread()", `proto main rest regs=4
		line 1; const 1 print; list 2; const 3 1; add 2 ~3; call 1 ~1 ~2; drop 1
		line 2; const 1 read; list 2; call 1 ~1 ~2; drop 1
		list 1; return ~1`)
}

// P6: NIf without a third part, with a NBlock and with a NIf.
func TestCompileIf(t *testing.T) {
	const say, hear = "const 1 print; list 2; call 1 ~1 ~2; drop 1;", "const 1 read; list 2; call 1 ~1 ~2; drop 1;"
	checkBody(t, "if 1 {}", "line 1; const 1 1; unless ~1 @else; else:")
	checkBody(t, "if 1 {print()}", "line 1; const 1 1; unless ~1 @else; line 1; "+say+"else:")
	checkBody(t, "if 1 {print()} else {read()}", "line 1; const 1 1; unless ~1 @else; line 1; "+say+"jump @end; else: line 1; "+hear+"end:")
	checkBody(t, "if 1 {} else {}", "line 1; const 1 1; unless ~1 @else; jump @end; else: end:")
	checkBody(t, "if 1 {\nprint()\n} elif 2 {\nread()\n}", "line 1; const 1 1; unless ~1 @else; line 2; "+say+"jump @end; else: line 3; const 1 2; unless ~1 @end; line 4; "+hear+"end:")
	checkBody(t, "if 1 {\nprint()\n} elif 2 {\nread()\n} else {\nprint()\n}", "line 1; const 1 1; unless ~1 @else; line 2; "+say+"jump @end; else: line 3; const 1 2; unless ~1 @third; line 4; "+hear+"jump @end; third: line 6; "+say+"end:")
	// The condition's register is free again in either block.
	checkCompiled(t, "if ... {let a = 1} else {let b = 2}\nlet c", `proto main rest regs=2
		line 1; pick 1 0 0; unless ~1 @else; line 1; const 1 1; drop 1; jump @end
		else: line 1; const 1 2; drop 1
		end: line 2; const 1 nil; drop 1; list 1; return ~1
		var a 1 5 5
		var b 1 9 9
		var c 1 12 12`)
}

// P6: NWhile, and NBreak and NNext in it.
func TestCompileWhile(t *testing.T) {
	checkBody(t, "while 1 {\nprint()\n}", "line 1; begin: tick; const 1 1; unless ~1 @exit; line 2; const 1 print; list 2; call 1 ~1 ~2; drop 1; at 1; jump @begin; exit:")
	checkBody(t, "let x\nwhile x {}", "line 1; const 1 nil; line 2; begin: tick; move 2 1; unless ~2 @exit; at 2; jump @begin; exit: drop 1")
	checkBody(t, "while 1 {\nbreak\nnext\n}", "line 1; begin: tick; const 1 1; unless ~1 @exit; line 2; jump @exit; line 3; jump @next; next: at 1; jump @begin; exit:")
	checkBody(t, "while 1 {\nlet a\n{let b; break}\nnext\n}", `line 1; begin: tick; const 1 1; unless ~1 @exit
		line 2; const 1 nil
		line 3; const 2 nil; line 3; drop 2; drop 1; jump @exit; drop 2
		line 4; drop 1; jump @next; drop 1
		next: at 1; jump @begin; exit:`)
	// The inner loop's jumps stay within it.
	checkBody(t, "while 1 {\nwhile 2 {\nif 3 {next}\nbreak\n}\nbreak\n}", `line 1; begin: tick; const 1 1; unless ~1 @exit
		line 2; again: tick; const 1 2; unless ~1 @out
		line 3; const 1 3; unless ~1 @else; line 3; jump @on
		else: line 4; jump @out
		on: at 2; jump @again
		out: line 6; jump @exit
		at 1; jump @begin; exit:`)
}

// P6: NFor: its variable is a copy of the count, new at each turn.
func TestCompileFor(t *testing.T) {
	checkCompiled(t, "for i = 1, 2, 3 {print(i)}", `proto main rest regs=8
		line 1; const 1 1; const 2 2; const 3 3; for 1
		test: fortest 1 @exit; tick; move 4 1
		line 1; const 5 print; list 6; move 7 4; add 6 ~7; call 5 ~5 ~6; drop 5
		drop 4; at 1; fornext 1 @test
		exit: drop 1; drop 2; drop 3; list 1; return ~1
		var i 4 8 15`)
	checkCompiled(t, "for i = 1, 2, 3 {}", `proto main rest regs=5
		line 1; const 1 1; const 2 2; const 3 3; for 1
		test: fortest 1 @exit; tick; move 4 1
		drop 4; at 1; fornext 1 @test
		exit: drop 1; drop 2; drop 3; list 1; return ~1
		var i 4 8 8`)
	checkCompiled(t, "for i = 1, 2, 3 {\nlet f = fn() {return i}\n}", `proto main rest regs=6
		line 1; const 1 1; const 2 2; const 3 3; for 1
		test: fortest 1 @exit; tick; move 4 1; box 4 ~4
		line 2; fn 5 1; drop 5
		drop 4; at 1; fornext 1 @test
		exit: drop 1; drop 2; drop 3; list 1; return ~1
		var i 4 9 12
		var f 5 11 11
		proto _ line=2 ups=r4 regs=2
		line 2; list 0; upget 1 0; add 0 ~1; return ~0; list 0; return ~0`)
	checkBody(t, "for i = 1, 2, 3 {\nlet a\nif a {break}\nnext\n}", `line 1; const 1 1; const 2 2; const 3 3; for 1
		test: fortest 1 @exit; tick; move 4 1
		line 2; const 5 nil
		line 3; move 6 5; unless ~6 @else; line 3; drop 5; drop 4; jump @exit
		else: line 4; drop 5; drop 4; jump @next
		drop 5; drop 4
		next: at 1; fornext 1 @test
		exit: drop 1; drop 2; drop 3`)
}

// P6: NEach with one variable and with four; each is boxed as soon as it is in its home, ahead of the next one.
func TestCompileEach(t *testing.T) {
	checkCompiled(t, "for k, v in {} {\nprint(k, v)\n}", `proto main rest regs=9
		line 1; table 1; each 1
		test: eachnext 1 @exit 3; pick 4 3 0; pick 5 3 1; drop 3
		line 2; const 6 print; list 7; move 8 4; add 7 ~8; move 8 5; add 7 ~8; call 6 ~6 ~7; drop 6
		drop 3; drop 4; drop 5; at 1; jump @test
		exit: drop 1; drop 2; list 1; return ~1
		var k 4 7 16
		var v 5 7 16`)
	checkCompiled(t, "for a, b, c, d in read {\nlet f = fn() {return d, a, b}\n}", `proto main rest regs=9
		line 1; const 1 read; each 1
		test: eachnext 1 @exit 3; pick 4 3 0; box 4 ~4; pick 5 3 1; box 5 ~5; pick 6 3 2; pick 7 3 3; box 7 ~7; drop 3
		line 2; fn 8 1; drop 8
		drop 3; drop 4; drop 5; drop 6; drop 7; at 1; jump @test
		exit: drop 1; drop 2; list 1; return ~1
		var a 4 12 15
		var b 5 12 15
		var c 6 12 15
		var d 7 12 15
		var f 8 14 14
		proto _ line=2 ups=r7,r4,r5 regs=2
		line 2; list 0; upget 1 0; add 0 ~1; upget 1 1; add 0 ~1; upget 1 2; add 0 ~1; return ~0; list 0; return ~0`)
	checkCompiled(t, "for k in {} {}", `proto main rest regs=5
		line 1; table 1; each 1
		test: eachnext 1 @exit 3; pick 4 3 0; drop 3
		drop 3; drop 4; at 1; jump @test
		exit: drop 1; drop 2; list 1; return ~1
		var k 4 6 6`)
	checkBody(t, "for k in {} {\nlet a\nif a {break}\nnext\n}", `line 1; table 1; each 1
		test: eachnext 1 @exit 3; pick 4 3 0; drop 3
		line 2; const 5 nil
		line 3; move 6 5; unless ~6 @else; line 3; drop 5; drop 3; drop 4; jump @exit
		else: line 4; drop 5; drop 3; drop 4; jump @next
		drop 5; drop 3; drop 4
		next: at 1; jump @test
		exit: drop 1; drop 2`)
}

// P6: NReturn with and without a call at its end.
func TestCompileReturn(t *testing.T) {
	for values, want := range map[string]string{
		"":             "",
		"1":            "const 2 1; add 1 ~2;",
		"1, 2":         "const 2 1; add 1 ~2; const 2 2; add 1 ~2;",
		"read()":       "const 2 read; list 3; call 2 ~2 ~3; join 1 ~2;",
		"(read())":     "const 2 read; list 3; call 2 ~2 ~3; first 2 ~2; add 1 ~2;",
		"read(), 1":    "const 2 read; list 3; call 2 ~2 ~3; first 2 ~2; add 1 ~2; const 2 1; add 1 ~2;",
		"1, read()":    "const 2 1; add 1 ~2; const 2 read; list 3; call 2 ~2 ~3; join 1 ~2;",
		"...":          "copy 2 0; join 1 ~2;",
		"..., ...":     "pick 2 0 0; add 1 ~2; copy 2 0; join 1 ~2;",
		"(...)":        "copy 2 0; first 2 ~2; add 1 ~2;",
		"1 + read()":   "const 2 1; const 3 read; list 4; call 3 ~3 ~4; first 3 ~3; binary 2 add ~2 ~3; add 1 ~2;",
		"1 and read()": "const 2 1; unless 2 @end; drop 2; const 2 read; list 3; call 2 ~2 ~3; first 2 ~2; end: add 1 ~2;",
	} {
		checkBody(t, "return "+values, "line 1; list 1; "+want+"return ~1")
	}
}

// P6: NTry: its own two registers hold the error, and are free in its first NBlock.
func TestCompileTry(t *testing.T) {
	checkCompiled(t, "try {\nprint()\n} catch e, t {\nread()\n}", `proto main rest regs=5
		line 1; try @handler 1
		line 2; const 1 print; list 2; call 1 ~1 ~2; drop 1
		endtry; jump @end
		handler: line 4; const 3 read; list 4; call 3 ~3 ~4; drop 3
		drop 1; drop 2
		end: list 1; return ~1
		var e 1 9 14
		var t 2 9 14`)
	checkCompiled(t, "try {} catch e, t {}", `proto main rest regs=3
		line 1; try @handler 1; endtry; jump @end; handler: drop 1; drop 2; end: list 1; return ~1
		var e 1 4 4
		var t 2 4 4`)
	checkCompiled(t, "try {let a} catch e, t {\nlet b = fn() {return t}\n}", `proto main rest regs=4
		line 1; try @handler 1
		line 1; const 1 nil; drop 1
		endtry; jump @end
		handler: box 2 ~2
		line 2; fn 3 1; drop 3
		drop 1; drop 2
		end: list 1; return ~1
		var a 1 4 4
		var e 1 8 11
		var t 2 8 11
		var b 3 10 10
		proto _ line=2 ups=r2 regs=2
		line 2; list 0; upget 1 0; add 0 ~1; return ~0; list 0; return ~0`)
	checkCompiled(t, "let x\ntry {} catch e, t {throw fn() {return e, t}}", `proto main rest regs=5
		line 1; const 1 nil
		line 2; try @handler 2; endtry; jump @end
		handler: box 2 ~2; box 3 ~3
		line 2; fn 4 1; throw ~4
		drop 2; drop 3
		end: drop 1; list 1; return ~1
		var x 1 2 13
		var e 2 8 11
		var t 3 8 11
		proto _ line=2 ups=r2,r3 regs=2
		line 2; list 0; upget 1 0; add 0 ~1; upget 1 1; add 0 ~1; return ~0; list 0; return ~0`)
}

// P6: blocks with a NDefer: IKeep behind each of their own NLets, ILeave ahead of forgetting; no other block has these.
func TestCompileDefer(t *testing.T) {
	checkCompiled(t, "let a\ndefer print(1, ...)\nlet b, c\nb = 1", `proto main rest regs=5
		scope 1
		line 1; const 1 nil; keep 2
		line 2; const 2 print; list 3; const 4 1; add 3 ~4; copy 4 0; join 3 ~4; defer ~2 ~3
		line 3; const 2 nil; const 3 nil; keep 4
		line 4; const 4 1; move 2 ~4
		leave; drop 1; drop 2; drop 3; list 1; return ~1
		var a 1 3 20
		var b 2 15 20
		var c 3 15 20`)
	checkCompiled(t, "let a\n{\ndefer read()\nlet b = 1\n{let c}\n}\nlet d", `proto main rest regs=4
		line 1; const 1 nil
		scope 2; line 3; const 2 read; list 3; defer ~2 ~3
		line 4; const 2 1; keep 3
		line 5; const 3 nil; drop 3
		leave; drop 2
		line 7; const 2 nil; drop 1; drop 2; list 1; return ~1
		var a 1 2 17
		var b 2 9 14
		var c 3 12 12
		var d 2 17 17`)
	// In a NIf, in a NTry, in loops and in a fn it is the block's own.
	checkBody(t, "if 1 {let a; defer read()}", "line 1; const 1 1; unless ~1 @else; scope 1; line 1; const 1 nil; keep 2; line 1; const 2 read; list 3; defer ~2 ~3; leave; drop 1; else:")
	checkBody(t, "try {defer read()} catch e, t {defer read()}", `line 1; try @handler 1; scope 1; line 1; const 1 read; list 2; defer ~1 ~2; leave; endtry; jump @end
		handler: scope 3; line 1; const 3 read; list 4; defer ~3 ~4; leave; drop 1; drop 2; end:`)
	checkCompiled(t, "return fn(p) {let a; defer p(a)}", `proto main rest regs=3
		line 1; list 1; fn 2 1; add 1 ~2; return ~1; list 1; return ~1
		proto _ line=1 params=1 regs=5
		scope 1; line 1; const 1 nil; keep 2; line 1; move 2 0; list 3; move 4 1; add 3 ~4; defer ~2 ~3; leave; drop 1; list 1; return ~1
		var p 0 0 14
		var a 1 3 11`)
}
