package tests

import (
	"fmt"
	"strings"
	"testing"

	"loop.example/heddle/impl"
)

// kindedSteps: a table in register 0, whose kind has at a name the fn h, or the builtin that is told; register 1 is empty behind it.
func kindedSteps(name, handler string) string {
	load := "fn 3 h"
	if handler != "h" {
		load = "const 3 " + handler
	}
	return fmt.Sprintf("proto main\nline 1; table 0; table 1; const 2 %q; %s; raw 1 2 3; one 2 setkind r0 ~1; drop 2; drop 3; ", name, load)
}

// tellsArgs: the fn h prints its arguments and gives a value.
func tellsArgs(gives string) string {
	return "\nproto h line=9 rest\nconst 1 print; copy 2 0; call 2 ~1 ~2; drop 2; give 1 " + gives + " \"more\""
}

// P5: the handlers of operations, on the first and on the second operand; both are told in their order.
func TestStepBinaryHandlers(t *testing.T) {
	for _, op := range []string{"add", "sub", "mul", "div", "idiv", "mod", "and", "or", "xor", "shl", "shr", "join"} {
		for _, gives := range []string{"7", "nil", "false"} {
			checkSteps(t, kindedSteps(op, "h")+"const 1 nil; binary 2 "+op+" 0 1; give 3 r2"+tellsArgs(gives),
				"line 0.0:1", "call 0.1:9 h", "print 0.1:0 table nil", "back 0.1:0", "gives "+gives)
			checkSteps(t, kindedSteps(op, "h")+"const 1 5; binary 1 "+op+" 1 ~0; give 3 r1"+tellsArgs(gives),
				"line 0.0:1", "call 0.1:9 h", "print 0.1:0 5 table", "back 0.1:0", "gives "+gives)
		}
		// Without a handler, or with that of another operation.
		checkStepCode(t, "table 0; const 1 5; binary 2 "+op+" 0 1", impl.ErrType)
		other := "add"
		if op == "add" {
			other = "sub"
		}
		text := kindedSteps(other, "h") + "const 1 5; binary 2 " + op + " 0 1; give 3" + tellsArgs("1")
		if r := ranCode(t, text, stepsOf(text), plenty()); r.Error != "error 1" {
			t.Errorf("%s: %+v", text, r)
		}
	}
	// The first one's comes ahead of the second one's; a builtin is one too; other codes than ErrType ask for none.
	both := "proto main\ntable 0; table 1; const 2 \"add\"; const 3 type; raw 1 2 3; one 3 setkind r0 r1; table 4; table 5; const 3 print; raw 5 2 3; one 6 setkind r4 r5; binary 6 add 0 4; binary 7 add 4 0; give 8 r6 r7"
	checkGives(t, both, "table table", "gives table nil")
	checkStepCode(t, "const 0 5; const 1 0; binary 2 mod 0 1", impl.ErrZero)
	// What the handler gives first; nil when it gives nothing.
	checkGives(t, kindedSteps("add", "print")+"binary 1 add 0 0; give 2 r1", "table table", "gives nil")
	// A handler that is no fn is called as anything is.
	text := kindedSteps("add", "7") + "binary 1 add 0 0; give 2 r1"
	if r := ranCode(t, text, stepsOf(text), plenty()); r.Error != "error 6" {
		t.Errorf("%+v", r)
	}
}

// P5: `eq` is asked for two tables that are not Same, and says by its Truth whether they are equal.
func TestStepEqHandlers(t *testing.T) {
	for gives, equal := range map[string]bool{"7": true, "true": true, "nil": false, "false": false} {
		for op, wants := range map[string]bool{"eq": equal, "ne": !equal} {
			checkGives(t, kindedSteps("eq", "h")+"table 1; binary 2 "+op+" 0 1; give 3 r2"+tellsArgs(gives), "table table", fmt.Sprint("gives ", wants))
			checkGives(t, kindedSteps("eq", "h")+"table 1; binary 2 "+op+" 1 0; give 3 r2"+tellsArgs(gives), "table table", fmt.Sprint("gives ", wants))
			checkGives(t, kindedSteps("eq", "h")+"move 1 0; binary 2 "+op+" 0 1; give 3 r2"+tellsArgs(gives), fmt.Sprint("gives ", op == "eq"))
			checkGives(t, kindedSteps("eq", "h")+"const 1 5; binary 2 "+op+" 0 1; binary 3 "+op+" 1 0; give 4 r2 r3"+tellsArgs(gives),
				fmt.Sprintf("gives %v %v", op == "ne", op == "ne"))
		}
	}
	checkGives(t, "table 0; table 1; binary 2 eq 0 1; binary 3 ne 0 1; give 4 r2 r3", "gives false true")
	checkGives(t, `const 0 1; const 1 1.0; binary 2 eq 0 1; binary 3 ne ~0 ~1; give 4 r2 r3`, "gives true false")
}

// P5: `lt` and `le` where Compare is 3; turned around for OpGt and OpGe.
func TestStepOrderHandlers(t *testing.T) {
	for op, x := range map[string]struct {
		name   string
		turned bool
	}{"lt": {"lt", false}, "le": {"le", false}, "gt": {"lt", true}, "ge": {"le", true}} {
		for gives, truth := range map[string]string{"7": "true", "nil": "false", "false": "false", `""`: "true"} {
			said := []string{"table 5", "5 table"}
			if x.turned {
				said = []string{"5 table", "table 5"}
			}
			checkGives(t, kindedSteps(x.name, "h")+"const 1 5; binary 2 "+op+" 0 1; give 3 r2"+tellsArgs(gives), said[0], "gives "+truth)
			checkGives(t, kindedSteps(x.name, "h")+"const 1 5; binary 2 "+op+" 1 0; give 3 r2"+tellsArgs(gives), said[1], "gives "+truth)
		}
		// Which of two is asked: that of the first, and that is the right one for those that are turned around.
		text := "proto main\ntable 0; table 1; const 2 \"" + x.name + "\"; fn 3 f; raw 1 2 3; one 3 setkind r0 r1; table 4; table 5; fn 3 g; raw 5 2 3; one 6 setkind r4 r5; binary 6 " + op +
			" 0 4; give 8 r6\nproto f\nsay 0 \"f\"; give 0\nproto g\nsay 0 \"g\"; give 0"
		who := "f"
		if x.turned {
			who = "g"
		}
		checkGives(t, text, who, "gives false")
		for _, other := range []string{"lt", "le", "eq", "gt", "ge"} {
			if other == x.name {
				continue
			}
			text := kindedSteps(other, "h") + "binary 2 " + op + " 0 0; give 3 r2" + tellsArgs("1")
			if r := ranCode(t, text, stepsOf(text), plenty()); r.Error != "error 1" {
				t.Errorf("%s: %+v", text, r)
			}
		}
	}
	checkGives(t, `const 0 "a"; const 1 "b"; binary 2 lt 0 1; binary 3 gt 0 1; binary 4 ge 1 1; give 5 r2 r3 r4`, "gives true false true")
}

// P5: `neg`, `flip` and `len`; IUnary with OpNot asks nobody.
func TestStepUnaryHandlers(t *testing.T) {
	for _, op := range []string{"neg", "flip", "len"} {
		for _, gives := range []string{"7", "nil"} {
			checkGives(t, kindedSteps(op, "h")+"unary 1 "+op+" 0; give 3 r1"+tellsArgs(gives), "table", "gives "+gives)
			checkGives(t, kindedSteps(op, "h")+"unary 1 "+op+" ~0; give 3 r1"+tellsArgs(gives), "table", "gives "+gives)
		}
	}
	for _, op := range []string{"neg", "flip"} {
		checkStepCode(t, "table 0; unary 1 "+op+" 0", impl.ErrType)
	}
	checkGives(t, "table 0; const 1 1; raw 0 1 1; const 2 3; raw 0 2 1; unary 1 len 0; const 2 2; raw 0 2 1; unary 2 len 0; give 3 r1 r2", "gives 1 3")
	checkGives(t, kindedSteps("not", "h")+"unary 1 not 0; give 3 r1"+tellsArgs("7"), "gives false")
	checkGives(t, kindedSteps("neg", "print")+"unary 1 neg 0; give 3 r1", "table", "gives nil")
}

// P5: reading: Get, then `index`: a table is read in its place, anything else is called.
func TestStepIndexHandlers(t *testing.T) {
	checkGives(t, kindedSteps("index", "h")+`const 1 "k"; index 2 0 1; give 3 r2`+tellsArgs("7"), "table k", "gives 7")
	checkGives(t, kindedSteps("index", "h")+`const 1 nil; index 2 0 1; give 3 r2`+tellsArgs("nil"), "table nil", "gives nil")
	checkGives(t, kindedSteps("index", "h")+`const 1 "k"; raw 0 1 1; index 2 0 1; give 3 r2`+tellsArgs("7"), "gives k")
	checkGives(t, kindedSteps("index", "rawget")+`const 1 "k"; index 2 0 1; give 3 r2`, "gives nil")
	checkGives(t, kindedSteps("index", "print")+`const 1 "k"; index 2 0 1; give 3 r2`, "table k", "gives nil")
	text := kindedSteps("index", "7") + `const 1 "k"; index 2 0 1; give 3 r2`
	if r := ranCode(t, text, stepsOf(text), plenty()); r.Error != "error 6" {
		t.Errorf("%+v", r)
	}
	// The last table of a chain, with the key and without it; what it calls has that table as its argument.
	for count, want := range map[int][]string{1: {"gives 5 nil"}, 20: {"gives 5 nil"}, 21: {"error 11 at main:0"}} {
		checkGives(t, `table 1; const 2 "k"; const 3 5; raw 1 2 3; drop 2; drop 3; `+chained("index", count)+`const 1 "k"; index 2 0 1; const 1 "none"; index 3 0 1; give 4 r2 r3`, want...)
	}
	for count, want := range map[int]string{1: "gives h", 20: "gives h", 21: "error 11 at main:0"} {
		text := "proto main\ntable 1; table 2; const 3 \"index\"; fn 4 h; raw 2 3 4; one 3 setkind r1 r2; drop 2; drop 3; drop 4; " + chained("index", count) +
			"const 1 \"k\"; index 2 0 1; give 4 r2\nproto h params=2\nconst 2 \"last\"; do 3 rawset r0 \"k\" 1; give 4 \"h\""
		checkGives(t, text, want)
	}
	// A chain that is left ahead of its end costs nothing more.
	checkGives(t, `table 1; `+chained("index", 25)+`const 1 "k"; const 2 7; raw 0 1 2; index 2 0 1; give 3 r2`, "gives 7")
}

// P5: writing: a pair that is there is written ahead of `setindex`; a table is written in its place, anything else is called.
func TestStepSetIndexHandlers(t *testing.T) {
	checkGives(t, kindedSteps("setindex", "h")+`const 1 "k"; const 2 5; set 0 1 2; index 3 0 1; give 4 r3`+tellsArgs("7"), "table k 5", "gives nil")
	checkGives(t, kindedSteps("setindex", "h")+`const 1 "k"; const 2 5; raw 0 1 1; set 0 1 2; index 3 0 1; const 2 nil; set 0 1 2; set 0 1 2; give 4 r3`+tellsArgs("7"), "table k nil", "gives 5")
	checkGives(t, kindedSteps("setindex", "rawset")+`const 1 "k"; const 2 5; set 0 1 2; index 3 0 1; give 4 r3`, "gives 5")
	for count, want := range map[int][]string{1: {"gives nil 5"}, 20: {"gives nil 5"}, 21: {"error 11 at main:0"}} {
		checkGives(t, `table 1; move 8 1; `+chained("setindex", count)+`const 1 "k"; const 2 5; set 0 1 2; index 3 0 1; index 4 8 1; give 5 r3 r4`, want...)
	}
	// The key is asked ahead of all handlers, and no handler takes what is no table.
	for text, code := range map[string]string{
		kindedSteps("setindex", "h") + `const 1 nil; set 0 1 0; give 4` + tellsArgs("7"):                "error 5",
		kindedSteps("setindex", "h") + `const 1 "k"; set 1 1 0; give 4` + tellsArgs("7"):                "error 7",
		kindedSteps("setindex", "7") + `const 1 "k"; set 0 1 0; give 4`:                                 "error 6",
		kindedSteps("index", "7") + `const 1 "k"; set 0 1 0; index 2 0 1; give 4 r2`:                    "",
		kindedSteps("setindex", "7") + `const 1 "k"; raw 0 1 0; set 0 1 0; give 4`:                      "",
		kindedSteps("setindex", "7") + `const 1 1; list 2; add 2 1; rawall 0 1 ~2; set 0 1 1; give 4`:   "",
		kindedSteps("setindex", "7") + `do 1 rawset r0 "k" 1; const 2 "k"; index 2 0 2; give 3 r2`:      "",
		kindedSteps("index", "7") + `one 1 rawget r0 "k"; give 3 r1`:                                    "",
		kindedSteps("setindex", "print") + `const 1 "k"; const 2 nil; set 0 1 2; unary 1 len 0; give 3`: "",
	} {
		if r := ranCode(t, text, stepsOf(text), plenty()); r.Error != code {
			t.Errorf("%s: %q, want %q", text, r.Error, code)
		}
	}
}

// P5: MaxPairs: a new key is one too many, a key that is there is not; nil is put anywhere.
func TestStepFullTables(t *testing.T) {
	full := "table 0; const 1 1; const 2 500; const 3 1; for 1; t: fortest 1 @e; tick; raw 0 1 1; fornext 1 @t; e: drop 1; drop 2; drop 3; line 4; "
	for do, code := range map[string]int{
		`const 1 500; const 2 "x"; set 0 1 2; raw 0 1 2`:                                    0,
		`const 1 501; const 2 "x"; set 0 1 2`:                                               impl.ErrLong,
		`const 1 501; const 2 "x"; raw 0 1 2`:                                               impl.ErrLong,
		`const 1 501; const 2 nil; raw 0 1 2; set 0 1 2`:                                    0,
		`const 1 500; list 2; add 2 1; add 2 1; rawall 0 1 2`:                               impl.ErrLong,
		`const 1 499; list 2; add 2 1; add 2 1; rawall 0 1 2`:                               0,
		`do 1 rawset r0 501 1`:                                                              impl.ErrLong,
		`do 1 rawset r0 501`:                                                                0,
		`const 1 7; const 2 nil; raw 0 1 2; const 1 501; raw 0 1 1`:                         0,
		`const 1 7; const 2 nil; raw 0 1 2; const 1 501; raw 0 1 1; const 1 502; set 0 1 1`: impl.ErrLong,
	} {
		checkStepCode(t, full+do, code)
	}
}

// P5: while a handler is called the line at hand stays, and what it throws goes through the one who asked for it.
func TestStepHandlersThrow(t *testing.T) {
	checkSteps(t, kindedSteps("add", "h")+"line 6; binary 2 add 0 0; give 3\nproto h line=9\nconst 0 \"no\"; line 3; throw 0",
		"line 0.0:1", "line 0.0:6", "call 0.1:9 h", "line 0.1:3", "throw 0.1:3 no", "back 0.1:0 error", "no at h:3 main:6")
	for _, ask := range []string{"index 2 0 1", "set 0 1 1", "unary 2 neg 0", "binary 2 lt 0 1", "each 0; drop 1", "binary 2 eq 0 1"} {
		name := map[string]string{"in": "index", "se": "setindex", "un": "neg", "bi": "lt", "ea": "each"}[ask[:2]]
		value := "5"
		if strings.HasPrefix(ask, "binary 2 eq") {
			name = "eq"
		}
		load := "const 1 " + value
		if name == "eq" {
			load = "table 1"
		}
		if name == "each" {
			load = "tick"
		}
		text := kindedSteps(name, "h") + load + "; " + ask + "; give 3\nproto h\nconst 0 \"no\"; throw 0"
		if r := ranCode(t, text, stepsOf(text), plenty()); r.Error != "no" || r.Trace != "h:0 main:1" {
			t.Errorf("%s: %+v", text, r)
		}
	}
}
