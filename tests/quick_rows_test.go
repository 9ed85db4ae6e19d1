package tests

import (
	"fmt"
	"strings"
	"testing"

	"loop.example/heddle/impl"
)

// P7: QDrops: two, three and more in a row, as many as there are, seen from each of them; the last of a row is an IDrop.
func TestQuickDrops(t *testing.T) {
	checkQuick(t, "drop 0; drop 1; list 0; return ~0", "qdrops 0 2 0 0 0 0; -; -; -")
	checkQuick(t, "drop 3; drop 4; drop 5; list 0; return ~0", "qdrops 3 3 0 0 0 0; qdrops 4 2 0 0 0 0; -; -; -")
	checkQuick(t, "tick; drop 1; drop 2; drop 3; drop 4; drop 5; list 0; return ~0",
		"-; qdrops 1 5 0 0 0 0; qdrops 2 4 0 0 0 0; qdrops 3 3 0 0 0 0; qdrops 4 2 0 0 0 0; -; -; -")
	checkNoQuick(t, "drop 0; list 0; return ~0")
	checkNoQuick(t, "drop 5; list 0; return ~0")
	// What the registers hold is all the same.
	checkQuick(t, "proto main rest\nconst 1 1; box 2 1; drop 0; drop 1; drop 2; drop 3; list 0; return ~0", "-; -; qdrops 0 4 0 0 0 0; qdrops 1 3 0 0 0 0; qdrops 2 2 0 0 0 0; -; -; -")
	// Up to what ends the proto.
	checkQuick(t, "begin: tick; drop 0; drop 1; jump @begin", "-; qdrops 0 2 0 0 0 0; -; -")
	checkQuick(t, "proto main\nfn 0 f; throw ~0\nproto f params=3\ndrop 1; drop 2; throw ~0", "-; -", "qdrops 1 2 0 0 0 0; -; -")
}

// P7: registers that go down, leave one out or stay end a row; so does any other instruction.
func TestQuickDropsEnd(t *testing.T) {
	for _, text := range []string{
		"drop 1; drop 0; list 0; return ~0", "drop 2; drop 1; drop 0; list 0; return ~0", "drop 0; drop 2; list 0; return ~0", "drop 2; drop 0; list 0; return ~0",
		"drop 0; drop 0; list 0; return ~0", "drop 3; drop 3; drop 3; list 0; return ~0", "drop 0; drop 3; drop 6; list 0; return ~0",
		"drop 0; tick; drop 1; list 0; return ~0", "drop 0; list 1; drop 2; return ~1", "drop 0; line 1; list 0; return ~0", "drop 0; at 1; list 0; return ~0",
	} {
		checkNoQuick(t, text)
	}
	checkQuick(t, "drop 0; drop 1; drop 3; list 0; return ~0", "qdrops 0 2 0 0 0 0; -; -; -; -")
	checkQuick(t, "drop 0; drop 2; drop 3; list 0; return ~0", "-; qdrops 2 2 0 0 0 0; -; -; -")
	checkQuick(t, "drop 1; drop 2; drop 1; drop 2; drop 3; list 0; return ~0", "qdrops 1 2 0 0 0 0; -; qdrops 1 3 0 0 0 0; qdrops 2 2 0 0 0 0; -; -; -")
	checkQuick(t, "drop 0; drop 1; drop 1; drop 2; list 0; return ~0", "qdrops 0 2 0 0 0 0; -; qdrops 1 2 0 0 0 0; -; -; -")
	checkQuick(t, "drop 0; drop 1; tick; drop 2; drop 3; list 0; return ~0", "qdrops 0 2 0 0 0 0; -; -; qdrops 2 2 0 0 0 0; -; -; -")
	checkQuick(t, "drop 3; drop 2; drop 3; list 0; return ~0", "-; qdrops 2 2 0 0 0 0; -; -; -")
	// An instruction of another Op whose A would be the next one.
	checkQuick(t, "drop 0; drop 1; list 2; drop 3; return ~2", "qdrops 0 2 0 0 0 0; -; -; -; -")
}

// P7: a row of all registers that there may be.
func TestQuickDropsAll(t *testing.T) {
	var text, want strings.Builder
	for r := range impl.MaxRegs {
		fmt.Fprintf(&text, "drop %d; ", r)
		if r < impl.MaxRegs-1 {
			fmt.Fprintf(&want, "qdrops %d %d 0 0 0 0; ", r, impl.MaxRegs-r)
		}
	}
	checkQuick(t, text.String()+"list 0; return ~0", want.String()+"-; -; -")
	// The row ends with the last register, and begins again.
	checkQuick(t, "drop 248; drop 249; drop 0; drop 1; list 0; return ~0", "qdrops 248 2 0 0 0 0; -; qdrops 0 2 0 0 0 0; -; -; -")
}

// P7: QTest: of all operations those from 13 to 18, with IIf and with IUnless.
func TestQuickTest(t *testing.T) {
	checkQuick(t, "const 0 1; const 1 2; binary 2 eq 0 1; if ~2 @on; tick; on: throw 0", "-; -; qtest 2 13 0 1 5 1; -; -; -")
	checkQuick(t, "const 0 1; const 1 2; binary 2 eq 0 1; unless ~2 @on; tick; on: throw 0", "-; -; qtest 2 13 0 1 5 0; -; -; -")
	for op := 1; op <= 18; op++ {
		for word, f := range map[string]int{"if": 1, "unless": 0} {
			text := fmt.Sprintf("const 3 1; const 4 2; tick; binary 3 %d ~4 ~3; %s ~3 @end; end: list 0; return ~0", op, word)
			if op < 13 {
				checkQuick(t, text, "-; -; -; -; -; -; -")
			} else {
				checkQuick(t, text, fmt.Sprintf("-; -; -; qtest 3 %d ~4 ~3 5 %d; -; -; -", op, f))
			}
		}
	}
}

// P7: QTest has n's operands as they are, and x's target, wherever that leads.
func TestQuickTestFields(t *testing.T) {
	for _, operands := range []string{"0 0", "0 1", "1 0", "~0 1", "0 ~1", "~0 ~1", "~1 ~0", "1 ~1"} {
		checkQuick(t, "const 0 1; const 1 2; tick; binary 2 lt "+operands+"; unless ~2 @end; end: list 3; return ~3", "-; -; -; qtest 2 15 "+operands+" 5 0; -; -; -")
	}
	// The place is one of the operands, taken or not.
	checkQuick(t, "const 0 1; const 1 2; tick; binary 0 ge ~0 1; if ~0 @end; end: list 3; return ~3", "-; -; -; qtest 0 18 ~0 1 5 1; -; -; -")
	checkQuick(t, "const 0 1; const 1 2; tick; binary 1 ne 0 1; if ~1 @end; end: list 3; return ~3", "-; -; -; qtest 1 14 0 1 5 1; -; -; -")
	checkQuick(t, "proto main\nfn 0 f; throw ~0\nproto f params=2\nbegin: tick; binary 2 gt 0 1; unless ~2 @begin; throw ~0", "-; -", "-; qtest 2 17 0 1 0 0; -; -")
	checkQuick(t, "proto main\nfn 0 f; throw ~0\nproto f params=2\ntick; here: binary 2 le 0 0; if ~2 @out; tick; jump @here; out: throw ~1", "-; -", "-; qtest 2 16 0 0 5 1; -; -; -; -")
	checkIdle(t, "binary 249 18 ~249 ~0; if ~249 0", "qtest 249 18 ~249 ~0 0 1; -")
	checkIdle(t, "binary 0 13 ~0 ~0; unless ~0 4", "qtest 0 13 ~0 ~0 4 0; -")
	checkIdle(t, "binary 0 13 ~0 ~0; unless ~0 3", "qtest 0 13 ~0 ~0 3 0; -")
	checkIdle(t, "binary 0 13 ~0 ~0; unless ~0 2", "qtest 0 13 ~0 ~0 2 0; -")
}

// P7: no QTest when one of its conditions is broken.
func TestQuickTestNot(t *testing.T) {
	for _, text := range []string{
		"binary 2 eq 0 1; if 2 @on; on: throw 0", "binary 2 eq 0 1; unless 2 @on; on: throw 0", // read and not taken
		"binary 2 eq 0 1; if ~1 @on; on: throw 0", "binary 2 eq 0 1; unless ~0 @on; on: throw 1", // another register
		"binary 2 eq 0 1; if 1 @on; on: throw 0", "binary 2 eq 0 1; unless 0 @on; on: throw 1",
		"binary 0 eq 0 1; if ~1 @on; on: throw 0", "binary 1 eq 0 1; if ~0 @on; on: throw 1", "binary 1 eq 0 1; if 0 @on; on: throw 1",
		"binary 2 eq 0 1; throw ~2", "binary 2 eq 0 1; unary 3 not ~2; throw ~3", "binary 2 eq 0 1; move 3 ~2; if ~3 @on; on: throw 0", // another x
		"binary 2 eq 0 1; tick; if ~2 @on; on: throw 0",                                             // not the next one
		"binary 2 join 0 1; if ~2 @on; on: throw 0", "binary 2 add 0 1; unless ~2 @on; on: throw 0", // another operation
		"unary 2 not 0; if ~2 @on; on: throw 0", "move 2 0; if ~2 @on; on: throw 0", "index 2 0 1; unless ~2 @on; on: throw 0", // another n
		"table 2; if ~2 @on; on: throw 0", "const 2 7; if ~2 @on; on: throw 0",
	} {
		checkNoQuick(t, "const 0 1; const 1 2; tick; "+text)
	}
	// Registers at both ends, each beside the one that would do.
	checkIdle(t, "binary 0 13 0 0; if 0 0", "-; -")
	checkIdle(t, "binary 1 13 0 0; if ~0 0", "-; -")
	checkIdle(t, "binary 1 13 0 0; if 1 0", "-; -")
	checkIdle(t, "binary 249 13 0 0; if ~248 0", "-; -")
	// An operation that has the number of a comparison, of another instruction.
	checkIdle(t, "unary 0 19 ~0; if ~0 0", "-; -")
	checkIdle(t, "pick 0 13 13; if ~0 0", "-; -")
	checkIdle(t, "set 0 13 13; if ~0 0", "-; -")
}

// P7: QWith: the const on the left and on the right, with each operation.
func TestQuickWith(t *testing.T) {
	checkQuick(t, "const 0 1; const 1 2; binary 2 add 0 ~1; throw ~2", "-; qwith 2 1 0 1 0 1; -; -")
	checkQuick(t, "const 0 1; const 1 2; binary 2 add ~1 0; throw ~2", "-; qwith 2 1 0 1 1 1; -; -")
	checkQuick(t, "const 0 1; const 1 2; binary 2 sub ~0 ~1; throw ~2", "-; qwith 2 2 ~0 1 0 1; -; -")
	checkQuick(t, "const 0 1; const 1 2; binary 2 sub ~1 ~0; throw ~2", "-; qwith 2 2 ~0 1 1 1; -; -")
	for op := 1; op <= 18; op++ {
		checkQuick(t, fmt.Sprintf("const 5 1; tick; const 4 2; binary 3 %d 5 ~4; throw ~3", op), fmt.Sprintf("-; -; qwith 3 %d 5 1 0 4; -; -", op))
		checkQuick(t, fmt.Sprintf("const 5 1; tick; const 4 2; binary 3 %d ~4 5; throw ~3", op), fmt.Sprintf("-; -; qwith 3 %d 5 1 1 4; -; -", op))
	}
	// The place is the register of the const, or the other operand's.
	checkQuick(t, "const 0 1; const 1 2; binary 1 mul 0 ~1; throw ~1", "-; qwith 1 3 0 1 0 1; -; -")
	checkQuick(t, "const 0 1; const 1 2; binary 0 mul ~1 ~0; throw ~0", "-; qwith 0 3 ~0 1 1 1; -; -")
	checkQuick(t, "const 0 1; const 1 2; binary 0 mul 0 ~1; throw ~0", "-; qwith 0 3 0 1 0 1; -; -")
	// A const of each Kind, by its number; the same const twice.
	for n, word := range []string{"nil", "true", "7", "0.5", `"a"`, "print"} {
		checkQuick(t, "const 0 nil; const 0 true; const 0 7; const 0 0.5; const 0 \"a\"; const 0 print; const 1 "+word+"; binary 1 join ~0 ~1; throw ~1",
			fmt.Sprintf("-; -; -; -; -; -; qwith 1 12 ~0 %d 0 1; -; -", n))
	}
	// The ends of what registers and consts there may be.
	checkIdle(t, "const 249 1; binary 0 18 ~248 ~249", "qwith 0 18 ~248 0 0 249; -")
	checkIdle(t, "const 0 1; binary 249 1 ~0 ~249", "qwith 249 1 ~249 0 1 0; -")
	checkIdle(t, "const 0 1; binary 0 1 249 ~0", "qwith 0 1 249 0 0 0; -")
}

// P7: no QWith when one of its conditions is broken.
func TestQuickWithNot(t *testing.T) {
	for _, text := range []string{
		"const 1 2; binary 2 add 1 ~1; throw ~2",                                         // the other operand is the const's register
		"const 1 2; binary 2 add 0 1; throw ~2", "const 1 2; binary 2 add 1 0; throw ~2", // read and not taken
		"const 1 2; binary 2 add ~0 1; throw ~2", "const 1 2; binary 2 add 1 ~0; throw ~2", // another one is taken
		"const 1 2; binary 2 add 1 1; throw ~2", "const 1 2; binary 2 add 0 0; throw ~2", "const 1 2; binary 1 add 0 ~0; throw ~1",
		"const 1 2; unary 2 neg ~1; throw ~2", "const 1 2; move 2 ~1; throw ~2", "const 1 2; tick; binary 2 add 0 ~1; throw ~2", // another x, or not the next
		"move 1 0; binary 2 add 0 ~1; throw ~2", "table 1; binary 2 add 0 ~1; throw ~2", "unary 1 neg 0; binary 2 add ~1 0; throw ~2", // another n
		"binary 1 add 0 0; binary 2 add 0 ~1; throw ~2",
	} {
		checkNoQuick(t, "const 0 1; tick; "+text)
	}
	// Both operands are its register: one taken and one not, in both orders, or both taken.
	checkIdle(t, "const 0 1; binary 1 1 0 ~0", "-; -")
	checkIdle(t, "const 0 1; binary 1 1 ~0 0", "-; -")
	checkIdle(t, "const 0 1; binary 1 1 ~0 ~0", "-; -")
	checkIdle(t, "const 0 1; binary 1 1 0 0", "-; -")
	checkIdle(t, "const 3 1; binary 1 1 3 ~3", "-; -")
	checkIdle(t, "const 3 1; binary 1 1 ~3 3", "-; -")
	checkIdle(t, "const 3 1; binary 1 1 ~3 ~3", "-; -")
	// The place or the number of the operation is the register.
	checkIdle(t, "const 1 1; binary 1 1 0 0", "-; -")
	checkIdle(t, "const 1 1; binary 1 1 ~0 ~2", "-; -")
	// Instructions with operands in the same fields.
	checkIdle(t, "const 1 1; raw 0 2 ~1", "-; -")
	checkIdle(t, "const 1 1; set 0 2 ~1", "-; -")
	checkIdle(t, "const 1 1; unary 0 19 ~1", "-; -")
	checkIdle(t, "const 1 1; index 0 2 ~1", "-; -")
}

// P7: QField: a const that is a string, with B taken or not.
func TestQuickField(t *testing.T) {
	checkQuick(t, "table 0; const 1 \"a\"; index 2 0 ~1; throw ~2", "-; qfield 2 0 0 0 0 1; -; -")
	checkQuick(t, "table 0; const 1 \"a\"; index 2 ~0 ~1; throw ~2", "-; qfield 2 ~0 0 0 0 1; -; -")
	checkQuick(t, "table 0; const 3 7; const 1 \"\"; index 1 0 ~1; throw ~1", "-; -; qfield 1 0 1 0 0 1; -; -")
	checkQuick(t, "table 0; const 3 7; const 1 \"\"; index 0 ~0 ~1; throw ~0", "-; -; qfield 0 ~0 1 0 0 1; -; -")
	checkIdle(t, "const 249 \"a\"; index 0 ~248 ~249", "qfield 0 ~248 0 0 0 249; -")
	checkIdle(t, "const 0 \"a\"; index 249 249 ~0", "qfield 249 249 0 0 0 0; -")
	// Of each Kind a string alone.
	for n, word := range []string{"nil", "true", "false", "7", "0.5", `"a"`, "print", `"7"`} {
		q := "-"
		if word[0] == '"' {
			q = fmt.Sprintf("qfield 1 0 %d 0 0 1", n)
		}
		checkQuick(t, "table 0; const 1 nil; const 1 true; const 1 false; const 1 7; const 1 0.5; const 1 \"a\"; const 1 print; const 1 \"7\"; tick; const 1 "+word+"; index 1 0 ~1; throw ~1",
			"-; -; -; -; -; -; -; -; -; -; "+q+"; -; -")
	}
}

// P7: no QField when one of its conditions is broken.
func TestQuickFieldNot(t *testing.T) {
	for _, text := range []string{
		"const 1 \"a\"; index 2 0 1; throw ~2", "const 1 \"a\"; index 2 ~0 1; throw ~2", // C is not taken
		"const 1 \"a\"; index 2 1 ~0; throw ~2", "const 1 \"a\"; index 2 1 0; throw ~2", // C is another register
		"const 1 \"a\"; index 2 ~1 0; throw ~2", "const 1 \"a\"; index 2 ~1 ~0; throw ~2",
		"const 1 \"a\"; index 2 1 ~1; throw ~2", "const 1 \"a\"; index 2 1 1; throw ~2", // B is the register itself
		"const 1 7; index 2 0 ~1; throw ~2",                                                                                         // no string
		"const 1 \"a\"; set 0 ~1 0; throw ~0", "const 1 \"a\"; raw 0 0 ~1; throw ~0", "const 1 \"a\"; tick; index 2 0 ~1; throw ~2", // another x, or not the next
		"move 1 0; index 2 0 ~1; throw ~2", "table 1; index 2 0 ~1; throw ~2", "index 1 0 0; index 2 0 ~1; throw ~2", // another n
	} {
		checkNoQuick(t, "table 0; tick; "+text)
	}
	// B is the register, taken as well; and it is taken while C only reads it, or reads another one.
	checkIdle(t, "const 0 \"a\"; index 1 ~0 ~0", "-; -")
	checkIdle(t, "const 3 \"a\"; index 1 ~3 ~3", "-; -")
	checkIdle(t, "const 3 \"a\"; index 1 3 ~3", "-; -")
	checkIdle(t, "const 3 \"a\"; index 1 ~3 3", "-; -")
	checkIdle(t, "const 1 \"a\"; index 1 ~3 ~2", "-; -")
	// What has a string's number, and is none: consts are those of its own proto.
	checkQuick(t, "proto main\nconst 0 \"a\"; fn 1 f; throw ~1\nproto f params=1\nconst 1 7; index 1 0 ~1; throw ~1", "-; -; -", "-; -; -")
	checkQuick(t, "proto main\nconst 0 7; fn 1 f; throw ~1\nproto f params=1\nconst 1 \"a\"; index 1 0 ~1; throw ~1", "-; -; -", "qfield 1 0 0 0 0 1; -; -")
}

// P7: the caches are counted proto by proto, in the order of the instructions, those that nothing reaches too.
func TestQuickCaches(t *testing.T) {
	checkQuick(t, `proto main
		table 0; const 1 "a"; index 1 0 ~1; const 2 "b"; index 1 ~1 ~2; fn 2 g; fn 3 f; throw ~1; const 2 "a"; index 1 0 ~2; jump 0
		proto f params=1
		const 1 "x"; index 1 0 ~1; const 2 3; index 1 1 ~2; const 2 "x"; index 1 1 2; throw ~1
		proto g params=1
		const 1 "y"; index 1 0 ~1; fn 2 h; throw ~1
		proto h params=2
		throw ~0; const 0 7; throw ~0`,
		"-; qfield 1 0 0 0 0 1; -; qfield 1 ~1 1 1 0 2; -; -; -; -; qfield 1 0 0 2 0 2; -; -",
		"qfield 1 0 0 3 0 1; -; -; -; -; -; -",
		"qfield 1 0 0 4 0 1; -; -; -",
		"-; -; -")
}
