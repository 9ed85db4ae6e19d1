package tests

import (
	"fmt"
	"slices"
	"strings"
	"testing"

	"loop.example/heddle/impl"
)

// verifyCase: the instructions of a text, and the code and the place of its fault.
type verifyCase struct {
	text     string
	code, at int
}

func checkVerify(t *testing.T, regs int, cases ...verifyCase) {
	t.Helper()
	for _, c := range cases {
		checkCodeFault(t, fmt.Sprint(regs, ": ", c.text), codeOf(regs, c.text), impl.CodeFault{Code: c.code, At: c.at})
	}
}

// holding: what brings something of a type into a register.
func holding(reg, sort int) string {
	switch sort {
	case impl.TValue:
		return fmt.Sprintf("const %d 0;", reg)
	case impl.TBox:
		return fmt.Sprintf("const %d 0; box %d %d;", reg, reg, -1-reg)
	case impl.TList:
		return fmt.Sprintf("list %d;", reg)
	}
	return ""
}

// opCase: an instruction of this Op in proto 1, all that it reads in registers of its own, but one of them with something of another
// type; what it puts comes into register 12. Tells where it stands.
func opCase(op, field, offset, sort int, taken bool) (impl.Code, int) {
	text := ""
	ins := impl.Ins{Op: op}
	if op == impl.IDefer {
		text = "scope 0;"
	}
	for n, told := range fieldSorts(op) {
		asked := typesOf(strings.TrimPrefix(told, "="))
		switch {
		case told == "":
			continue
		case told[0] == '>':
			ins = withField(ins, n, 12)
			if n == field {
				text += holding(12, sort)
			}
		case slices.Contains(asked, -1):
			ins = withField(ins, n, map[string]int{"line1": 1, "unary": 21, "binary": 1, "keep": 12, "trykeep": 12}[told])
		default:
			for k, want := range asked {
				if n == field && k == offset {
					want = sort
				}
				text += holding(3*n+k, want)
			}
			x := 3 * n
			if n == field && taken {
				x = -1 - x
			}
			ins = withField(ins, n, x)
		}
	}
	at := len(insOf(text))
	for n, told := range fieldSorts(op) {
		if told == "ins" {
			ins = withField(ins, n, at+3)
		}
	}
	first := protoOf(3, "const 0 0; box 0 -1; fn 1 1; list 2; return 2")
	home := protoOf(16, text+"tick; list 15; return -16; list 15; return -16")
	home.Ins[at] = ins
	home.Ups = []impl.Up{{Local: true}}
	return impl.Code{Protos: []impl.Proto{first, home}}, at
}

// P5: code 10: each operand and place of each Op with each of the four types; what is put may come where anything was.
func TestVerifyTypes(t *testing.T) {
	for op := 1; op <= 42; op++ {
		if op == impl.IFn || op == impl.IEndTry || op == impl.IKeep || op == impl.ILeave {
			continue
		}
		for n, told := range fieldSorts(op) {
			isPut := strings.HasPrefix(told, ">")
			asked := typesOf(strings.TrimLeft(told, "=>"))
			if slices.Contains(asked, -1) {
				continue
			}
			for sort := range 4 {
				for k, want := range asked {
					for _, taken := range []bool{false, told == "v" || told == "l"} {
						code, at := opCase(op, n, k, sort, taken)
						fault := impl.CodeFault{}
						if !isPut && sort != want {
							fault = impl.CodeFault{Code: 10, Proto: 1, At: at}
						}
						checkCodeFault(t, fmt.Sprintf("%s, field %d, register %d, type %d, taken %v", codeOps[op-1].name, n, k, sort, taken), code, fault)
					}
				}
			}
		}
	}
}

// P5: code 10: what one instruction reads twice, takes twice, or reads as a place and takes.
func TestVerifyTaking(t *testing.T) {
	const end = "; list 5; return -6"
	checkVerify(t, 6,
		verifyCase{"const 0 0; binary 1 1 0 0" + end, 0, 0},
		verifyCase{"const 0 0; binary 1 1 0 -1" + end, 0, 0},
		verifyCase{"const 0 0; binary 0 1 0 -1" + end, 0, 0},
		verifyCase{"const 0 0; binary 1 1 -1 0" + end, 10, 1},
		verifyCase{"const 0 0; binary 1 1 -1 -1" + end, 10, 1},
		verifyCase{"const 0 0; binary 0 1 -1 -1" + end, 10, 1},
		verifyCase{"const 0 0; index 1 0 -1" + end, 0, 0},
		verifyCase{"const 0 0; index 1 -1 0" + end, 10, 1},
		verifyCase{"const 0 0; index 0 -1 -1" + end, 10, 1},
		verifyCase{"const 0 0; set 0 0 -1" + end, 0, 0},
		verifyCase{"const 0 0; set 0 -1 0" + end, 10, 1},
		verifyCase{"const 0 0; set -1 0 0" + end, 10, 1},
		verifyCase{"const 0 0; set 0 -1 -1" + end, 10, 1},
		verifyCase{"const 0 0; set -1 0 -1" + end, 10, 1},
		verifyCase{"const 0 0; const 1 0; set -1 -2 1" + end, 10, 2},
		verifyCase{"const 0 0; const 1 0; const 2 0; set -1 -2 -3" + end, 0, 0},
		verifyCase{"table 0; raw 0 0 0" + end, 0, 0},
		verifyCase{"table 0; raw 0 -1 0" + end, 10, 1},
		verifyCase{"table 0; raw 0 0 -1" + end, 10, 1},
		verifyCase{"table 0; const 1 0; raw 0 -2 1" + end, 10, 2},
		verifyCase{"table 0; const 1 0; raw 0 1 -2" + end, 0, 0},
		verifyCase{"table 0; list 1; rawall 0 0 -2" + end, 0, 0},
		verifyCase{"table 0; list 1; rawall 0 -1 1" + end, 10, 2},
		verifyCase{"table 0; list 1; rawall 0 -1 -2" + end, 10, 2},
		verifyCase{"list 0; join 0 0" + end, 0, 0},
		verifyCase{"list 0; join 0 -1" + end, 10, 1},
		verifyCase{"list 0; list 1; join 0 -2" + end, 0, 0},
		verifyCase{"list 0; add 0 -1" + end, 10, 1},
		verifyCase{"const 0 0; box 0 0; put 0 -1" + end, 10, 2},
		verifyCase{"const 0 0; list 1; call 1 -1 -2; join 1 1" + end, 0, 0},
		verifyCase{"const 0 0; list 1; call 0 -1 -2; join 0 0" + end, 0, 0},
		verifyCase{"const 0 0; list 1; call 0 -1 -2; join 0 1" + end, 10, 3},
		verifyCase{"list 0; call 1 0 0" + end, 10, 1},
		verifyCase{"list 0; first 0 -1; move 0 -1; box 0 -1; get 0 0; throw -1", 0, 0},
		verifyCase{"list 0; pick 0 0 0; pick 0 0 0" + end, 10, 2},
		verifyCase{"list 0; copy 0 0; copy 1 0; join 0 -2; return -1", 0, 0},
		verifyCase{"const 0 0; unary 0 21 -1; if -1 @e; e: throw 0", 10, 3},
		verifyCase{"const 0 0; if 0 @e; e: throw -1", 0, 0},
		verifyCase{"scope 0; const 0 0; list 1; defer -1 -2; defer 0 1" + end, 10, 4},
		verifyCase{"scope 0; const 0 0; list 1; defer 0 1; defer -1 -2" + end, 0, 0},
		verifyCase{"const 0 0; each 0; each 0" + end, 10, 2},
		verifyCase{"const 0 0; list 1; each 0" + end, 10, 2},
		verifyCase{"const 0 0; const 1 0; drop 1; each 0; each 1" + end, 0, 0},
		verifyCase{"const 0 0; each 0; drop 1; each 0" + end, 0, 0},
		verifyCase{"const 0 0; const 1 0; const 2 0; for 0; for 0; for 1" + end, 10, 5},
		verifyCase{"drop 0; drop 0; drop 5" + end, 0, 0},
	)
}

// P5: code 10: each Local Up of an IFn is a box; its place may be one of these.
func TestVerifyUps(t *testing.T) {
	for sort := range 4 {
		for at, text := range map[int]string{0: "fn 4 1;", 1: "fn 0 1;", 2: "fn 3 1;"} {
			prelude := holding(0, impl.TBox) + holding(3, sort)
			if at == 1 {
				prelude = "tick;" + prelude
			}
			inner := protoOf(1, "list 0; return -1")
			inner.Ups = []impl.Up{{Local: true}, {Local: true, Index: 3}, {Local: true}}
			code := impl.Code{Protos: []impl.Proto{protoOf(5, prelude+text+"list 1; return -2"), inner}}
			want := impl.CodeFault{}
			if sort != impl.TBox {
				want = impl.CodeFault{Code: 10, At: len(insOf(prelude))}
			}
			checkCodeFault(t, fmt.Sprint(text, " over a register with ", sort), code, want)
			inner.Ups = inner.Ups[:1]
			code.Protos[1] = inner
			checkCodeFault(t, fmt.Sprint(text, " beside a register with ", sort), code, impl.CodeFault{})
		}
	}
	c := threeProtos("fn 0 2; list 0; return 0")
	c.Protos[2].Ups = []impl.Up{{Index: 0}, {Index: 1}}
	checkCodeFault(t, "ups of the fn itself", c, impl.CodeFault{})
	c.Protos[2].Ups[1].Local = true
	checkCodeFault(t, "a register with nothing", c, impl.CodeFault{Code: 10, Proto: 1})
}

// P5: the arguments are in the first registers, the others in a list behind them.
func TestVerifyBeginnings(t *testing.T) {
	for _, c := range []struct {
		params int
		rest   bool
		text   string
		want   int
	}{
		{0, false, "move 3 0; list 3; return 3", 10}, {1, false, "move 3 0; list 3; return 3", 0}, {1, false, "move 3 1; list 3; return 3", 10},
		{2, false, "binary 3 1 -1 -2; list 3; return 3", 0}, {3, false, "for 0; list 3; return 3", 0}, {2, false, "for 0; list 3; return 3", 10},
		{0, true, "return -1", 0}, {0, false, "return -1", 10}, {1, true, "return -1", 10}, {1, true, "return -2", 0}, {3, true, "return -4", 0},
		{3, true, "for 0; return -4", 0}, {2, true, "for 0; return -3", 10}, {4, false, "binary 3 1 0 3; throw 3", 0}, {1, false, "each 0; throw 0", 0}, {2, false, "each 0; throw 0", 10},
	} {
		code := impl.Code{Protos: []impl.Proto{protoOf(1, "fn 0 1; list 0; return -1"), protoOf(4, c.text)}}
		code.Protos[1].Params, code.Protos[1].Rest = c.params, c.rest
		want := impl.CodeFault{Code: c.want, Proto: min(1, c.want)}
		checkCodeFault(t, fmt.Sprint(c.params, c.rest, ": ", c.text), code, want)
	}
	text := codeOf(1, "return -1")
	text.Protos[0].Rest = true
	checkCodeFault(t, "the text's own arguments", text, impl.CodeFault{})
}

// P5: code 11: which guard must be the innermost.
func TestVerifyGuards(t *testing.T) {
	const end = "; list 5; return -6; h: throw 0"
	checkVerify(t, 6,
		verifyCase{"endtry; list 5; return -6", 11, 0},
		verifyCase{"keep 0; list 5; return -6", 11, 0},
		verifyCase{"leave; list 5; return -6", 11, 0},
		verifyCase{"const 0 0; list 1; defer 0 1; return 1", 11, 2},
		verifyCase{"scope 0; endtry; list 5; return -6", 11, 1},
		verifyCase{"try @h 0; keep 0" + end, 11, 1},
		verifyCase{"try @h 0; leave" + end, 11, 1},
		verifyCase{"try @h 0; const 0 0; list 1; defer 0 1" + end, 11, 3},
		verifyCase{"try @h 0; scope 0; endtry" + end, 11, 2},
		verifyCase{"scope 0; try @h 0; leave" + end, 11, 2},
		verifyCase{"scope 0; try @h 0; keep 1" + end, 11, 2},
		verifyCase{"try @h 0; endtry; endtry" + end, 11, 2},
		verifyCase{"scope 0; leave; leave; list 5; return -6", 11, 2},
		verifyCase{"try @h 0; endtry" + end, 0, 0},
		verifyCase{"try @h 0; scope 0; leave; endtry" + end, 0, 0},
		verifyCase{"scope 0; try @h 0; endtry; leave" + end, 0, 0},
		verifyCase{"scope 0; try @h 0; endtry; keep 3; const 0 0; list 1; defer 0 1; leave; list 5; return -6; h: keep 2; leave; throw 0", 0, 0},
		verifyCase{"scope 0; try @h 0; endtry; leave; list 5; return -6; h: endtry; throw 0", 11, 6},
		verifyCase{"try @h 0; list 5; return -6; h: leave; throw 0", 11, 3},
	)
}

// P5: code 11: 50 guards and no more; those that were taken off do not count.
func TestVerifyManyGuards(t *testing.T) {
	for _, count := range []int{49, 50, 51} {
		for _, sorts := range []string{"scope", "try", "mixed"} {
			text, handlers := "", ""
			for g := range count {
				if sorts == "scope" || sorts == "mixed" && g%2 == 0 {
					text += "scope 0;"
				} else {
					text += fmt.Sprintf("try @h%d 0;", g)
					handlers += fmt.Sprintf("h%d: throw 0;", g)
				}
			}
			want := impl.CodeFault{}
			if count > 50 {
				want = impl.CodeFault{Code: 11, At: 50}
			}
			checkCodeFault(t, fmt.Sprint(count, sorts), codeOf(2, text+"list 0; return -1;"+handlers), want)
			if sorts == "scope" {
				text = "scope 0; leave; scope 0; leave;" + text
				want.At += 4 * min(1, want.At)
				checkCodeFault(t, fmt.Sprint(count, " and two that are off"), codeOf(2, text+"list 0; return -1"), want)
			}
		}
	}
}

// P5: code 11: no keep is below that of a guard that catches, also of one further out; guards with defers ask for nothing.
func TestVerifyKeeps(t *testing.T) {
	const begin, end = "const 0 0; const 1 0; try @h 2; ", "; list 5; return -6; h: throw 2"
	for keep, code := range map[int]int{0: 11, 1: 11, 2: 0, 3: 0, 4: 0, 6: 0} {
		for text, at := range map[string]int{"scope %d": 3, "scope 2; scope %d": 4, "scope 5; keep %d": 4, "scope 6; scope 4; keep %d": 5} {
			checkVerify(t, 6, verifyCase{begin + fmt.Sprintf(text, keep) + end, code, at * min(1, code)})
		}
		if keep < 5 {
			text := begin + "scope 3; try @g %d; endtry" + end + "; g: throw %d"
			checkVerify(t, 6, verifyCase{fmt.Sprintf(text, keep, keep), code, 4 * min(1, code)})
		}
	}
	checkVerify(t, 6,
		verifyCase{"scope 4; scope 1; keep 0; leave; keep 0; list 5; return -6", 0, 0},
		verifyCase{"scope 4; try @h 1; list 5; return -6; h: throw 1", 0, 0},
		verifyCase{"scope 4; try @h 1; scope 0; list 5; return -6; h: throw 1", 11, 2},
		verifyCase{begin + "try @g 4; scope 3; list 5; return -6; h: throw 2; g: throw 4", 11, 4},
		verifyCase{begin + "try @g 4; scope 4; keep 3; list 5; return -6; h: throw 2; g: throw 4", 11, 5},
		verifyCase{begin + "try @g 4; endtry; scope 3; keep 2; list 5; return -6; h: throw 2; g: throw 4", 0, 0},
		verifyCase{begin + "try @g 4; endtry; endtry; scope 0; list 5; return -6; h: throw 2; g: throw 4", 0, 0},
		verifyCase{begin + "endtry; list 5; return -6; h: scope 0; throw 2", 0, 0},
	)
}

// P5: code 12: what a guard that catches keeps is not taken and stays of its type.
func TestVerifyKept(t *testing.T) {
	const begin, end = "const 0 0; const 1 0; const 2 0; try @h 2; ", "; list 7; return -8; h: throw 2"
	for op, code := range map[string]int{
		"move 3 -2": 12, "move 3 -3": 0, "move 3 -1": 12, "move 3 1": 0, "move 1 -2": 12, "move 0 -1": 12, "move 1 2": 0, "move 1 -3": 0,
		"drop 0": 12, "drop 1": 12, "drop 2": 0, "drop 3": 0, "list 0": 12, "list 1": 12, "list 2": 0, "list 3": 0, "box 1 1": 12, "box 1 -2": 12, "box 2 1": 0, "box 2 -3": 0,
		"const 0 1": 0, "const 1 1": 0, "table 1": 0, "binary 1 1 0 1": 0, "binary 1 1 0 -2": 12, "binary 3 1 2 -1": 12, "binary 3 1 1 -3": 0,
		"set 0 1 2": 0, "set 0 1 -3": 0, "set 0 -2 2": 12, "set -1 1 2": 12, "each 2": 0, "each 1": 10, "drop 2; each 1": 12, "if -2 @e; e: tick": 12, "if -3 @e; e: tick": 0,
		"throw -2": 12, "throw -3": 0, "throw 1": 0, "list 3; call 1 2 3": 12, "list 3; call 3 1 -4": 0, "list 3; call 3 -2 -4": 12, "for 0": 0, "fornext 0 @e; e: tick": 0,
		"raw 0 1 -3": 0, "raw 0 -2 2": 12, "unless -1 @e; e: tick": 12, "list 3; first 1 3": 0, "list 3; first 2 -4": 0, "list 3; copy 1 3": 12, "list 3; copy 2 3": 0,
		"tick; endtry; drop 0; move 3 -2": 0, "endtry; list 1": 0,
	} {
		at := 0
		if code > 0 {
			core := strings.ReplaceAll(strings.TrimSuffix(op, "; e: tick"), "@e", "0")
			at = 3 + len(insOf(core))
		}
		checkVerify(t, 8, verifyCase{begin + op + end, code, at})
	}
	checkVerify(t, 8,
		verifyCase{"try @h 3; const 2 0" + end, 12, 1},
		verifyCase{"try @h 3; const 3 0; drop 3; drop 2; drop 0; list 7; return -8; h: throw 3", 0, 0},
		verifyCase{"list 0; try @h 1; return 0; h: throw 1", 0, 0},
		verifyCase{"list 0; try @h 1; return -1; h: throw 1", 12, 2},
		verifyCase{"list 0; list 1; try @h 1; return -2; h: throw 1", 0, 0},
		verifyCase{"list 0; try @h 1; add 0 0" + end, 10, 2},
		verifyCase{"list 0; const 1 0; try @h 1; add 0 -2; join 0 0; list 7; return -8; h: throw 1", 0, 0},
		verifyCase{"const 0 0; box 0 0; try @h 1; put 0 1" + end, 10, 3},
		verifyCase{"const 0 0; box 0 0; try @h 1; get 1 0; put 0 -2; list 7; return -8; h: throw 1", 0, 0},
		verifyCase{"const 0 0; box 0 0; try @h 1; get 0 0" + end, 12, 3},
	)
}

// P5: code 12: going through something below the Keep of a guard.
func TestVerifyKeptEach(t *testing.T) {
	const end = "; list 7; return -8; h: throw 4"
	checkVerify(t, 8,
		verifyCase{"const 3 0; try @h 4; each 3" + end, 12, 2},
		verifyCase{"const 2 0; try @h 4; each 2" + end, 12, 2},
		verifyCase{"const 4 0; try @h 4; each 4" + end, 0, 0},
		verifyCase{"const 3 0; each 3; try @h 4; eachnext 3 @e 5; tick; e: tick" + end, 13, 5},
		verifyCase{"const 3 0; each 3; try @h 4; list 5; eachnext 3 @e 5; tick; e: tick" + end, 0, 0},
		verifyCase{"const 2 0; each 2; list 1; try @h 4; eachnext 2 @e 1; tick; e: tick" + end, 0, 0},
		verifyCase{"const 2 0; each 2; const 1 0; try @h 4; eachnext 2 @e 1; tick; e: tick" + end, 12, 4},
		verifyCase{"const 2 0; each 2; try @h 4; eachnext 2 @e 1; tick; e: tick" + end, 12, 3},
		verifyCase{"const 2 0; each 2; try @h 4; eachnext 2 @e 3; tick; e: tick" + end, 12, 3},
		verifyCase{"const 2 0; each 2; try @h 4; eachnext 2 @e 4; drop 4; e: tick" + end, 0, 0},
	)
}

// P5: code 12: guards within others, and the IEndTry of each; a guard with defers keeps nothing in this way.
func TestVerifyKeptWithin(t *testing.T) {
	const begin = "const 0 0; const 1 0; const 2 0; const 3 0; try @h 1; try @g 3; "
	const end = "; list 7; return -8; h: throw 1; g: throw 3"
	checkVerify(t, 8,
		verifyCase{begin + "drop 3" + end, 0, 0},
		verifyCase{begin + "drop 2" + end, 12, 6},
		verifyCase{begin + "drop 0" + end, 12, 6},
		verifyCase{begin + "move 4 -3" + end, 12, 6},
		verifyCase{begin + "endtry; drop 2; drop 1" + end, 0, 0},
		verifyCase{begin + "endtry; drop 2; drop 0" + end, 12, 8},
		verifyCase{begin + "endtry; endtry; drop 2; drop 0" + end, 0, 0},
		verifyCase{begin + "scope 5; drop 2" + end, 12, 7},
		verifyCase{begin + "scope 5; drop 4; leave; endtry; scope 5; drop 1" + end, 0, 0},
		verifyCase{begin + "scope 5; leave; endtry; scope 5; drop 0" + end, 12, 10},
		verifyCase{"const 0 0; scope 2; drop 0; const 0 0; move 1 -1; keep 0; list 7; return -8", 0, 0},
		verifyCase{begin + "list 7; return -8; h: drop 0; throw 1; g: drop 1; throw 3", 0, 0},
		verifyCase{begin + "list 7; return -8; h: throw 1; g: drop 0; throw 3", 12, 9},
		verifyCase{begin + "list 7; return -8; h: throw 1; g: drop 2; drop 1; throw -4", 0, 0},
	)
}

// P5: code 13: ways that meet do so in the same state, in the types of all registers and in all of the guards.
func TestVerifyMeeting(t *testing.T) {
	const fork = "const 0 0; if 0 @b; "
	for a, b := range map[string]string{
		"tick": "tick; tick", "const 1 0": "table 1", "list 1": "const 1 0; list 1", "box 1 0": "const 1 0; box 1 -2", "drop 0": "list 1; move 1 -1; drop 1",
		"scope 1": "scope 2; keep 1", "scope 2; scope 1": "scope 2; scope 1; scope 0; leave", "move 1 -1": "move 1 0; drop 0",
	} {
		for _, c := range []verifyCase{
			{fork + a + "; jump @m; b: " + b + "; m: list 5; return -6", 0, 0},
			{fork + b + "; jump @m; b: " + a + "; m: list 5; return -6", 0, 0},
			{fork + "tick; " + a + "; jump @m; b: " + b + "; m: list 5; return -6", 0, 0},
		} {
			checkVerify(t, 6, c)
		}
	}
	for a, b := range map[string]string{
		"tick": "const 1 0", "const 1 0": "list 1", "list 1": "box 1 0", "box 1 0": "drop 0", "drop 0": "const 4 0", "const 4 0": "const 5 0", "scope 1": "scope 2",
		"scope 0": "tick", "scope 0; scope 0": "scope 0", "scope 1; scope 2": "scope 2; scope 1", "scope 3; keep 4": "scope 3", "scope 0; leave": "scope 0",
		"list 5": "tick", "move 1 -1": "move 1 0", "try @h 1": "scope 1", "scope 1; try @h 1": "try @h 1; scope 1", "try @h 1; endtry": "scope 1",
	} {
		for _, pair := range [][2]string{{a, b}, {b, a}} {
			text := fork + pair[0] + "; jump @m; b: " + pair[1] + "; m: list 5; return -6; h: throw 2"
			meeting := len(insOf(fork+pair[0]+"; tick; b: "+pair[1]+"; h: tick")) - 1
			if strings.Contains(pair[0]+pair[1], "@h") && strings.Contains(pair[0]+pair[1], "scope 1; try") {
				continue // the handlers meet first
			}
			checkVerify(t, 6, verifyCase{text, 13, meeting})
		}
	}
	checkVerify(t, 6,
		verifyCase{fork + "try @h 1; jump @m; b: try @h 1; m: endtry; list 5; return -6; h: throw 2", 0, 0},
		verifyCase{fork + "try @h 1; jump @m; b: try @g 1; m: endtry; list 5; return -6; h: throw 2; g: throw 2", 13, 5},
		verifyCase{fork + "try @h 1; jump @m; b: try @g 2; m: endtry; list 5; return -6; h: throw 2; g: throw 2", 13, 5},
		verifyCase{fork + "try @h 1; jump @m; b: try @h 2; m: endtry; list 5; return -6; h: throw 2", 13, 5},
		verifyCase{fork + "try @h 1; endtry; jump @m; b: try @h 2; endtry; m: list 5; return -6; h: throw 2", 13, 9},
		verifyCase{fork + "try @h 1; endtry; jump @m; b: try @g 2; endtry; m: list 5; return -6; h: throw 2; g: throw 2", 0, 0},
		verifyCase{"scope 0; const 0 0; try @h 1; endtry; leave; list 5; return -6; h: throw 2; jump @h", 0, 0},
		verifyCase{"const 0 0; try @h 1; endtry; scope 0; try @h 1; endtry; list 5; return -6; h: throw 2", 13, 8},
	)
}

// P5: code 13: ways back, to instruction 0 too; a follower that is the next one and the other one at once.
func TestVerifyWaysBack(t *testing.T) {
	checkVerify(t, 4,
		verifyCase{"tick; jump 0", 0, 0},
		verifyCase{"tick; const 0 0; jump 0", 13, 0},
		verifyCase{"tick; const 0 0; drop 0; jump 0", 0, 0},
		verifyCase{"tick; const 0 0; if -1 0; jump 0", 0, 0},
		verifyCase{"tick; const 0 0; if 0 0; jump 0", 13, 0},
		verifyCase{"tick; scope 0; jump 0", 13, 0},
		verifyCase{"tick; scope 0; leave; jump 0", 0, 0},
		verifyCase{"const 0 0; a: tick; list 1; jump @a", 13, 1},
		verifyCase{"const 0 0; list 1; a: tick; list 1; jump @a", 0, 0},
		verifyCase{"const 0 0; if 0 @n; n: throw 0", 0, 0},
		verifyCase{"const 0 0; unless -1 @n; n: const 0 0; throw 0", 0, 0},
		verifyCase{"try @n 0; n: const 0 0; throw 0", 13, 1},
		verifyCase{"const 0 0; const 1 0; try @n 0; n: throw 0", 13, 3},
		verifyCase{"try 0 0; const 0 0; throw 0", 13, 0},
		verifyCase{"const 0 0; each 0; eachnext 0 @n 2; n: throw 0", 13, 3},
		verifyCase{"const 0 0; each 0; list 2; eachnext 0 @n 2; n: throw 0", 0, 0},
		verifyCase{"const 0 0; each 0; n: eachnext 0 @e 2; tick; drop 2; jump @n; e: throw 0", 0, 0},
		verifyCase{"const 0 0; each 0; n: eachnext 0 @e 2; tick; jump @n; e: throw 0", 13, 2},
		verifyCase{"const 0 0; each 0; n: eachnext 0 @e 2; drop 2; e: throw 0", 0, 0},
		verifyCase{"const 0 0; each 0; eachnext 0 @e 2; return 2; e: return 2", 10, 4},
		verifyCase{"const 0 0; each 0; list 2; eachnext 0 @e 2; return 2; e: return 2", 0, 0},
		verifyCase{"const 0 0; each 0; eachnext 0 @e 1; return 1; e: throw 1", 0, 0},
		verifyCase{"const 0 0; each 0; eachnext 0 @e 0; return 0; e: throw 0", 0, 0},
		verifyCase{"const 0 0; each 0; eachnext 0 @e 0; throw 0; e: throw 0", 10, 3},
		verifyCase{"const 0 0; const 1 0; const 2 0; for 0; t: fortest 0 @e; tick; fornext 0 @t; e: throw 0", 0, 0},
		verifyCase{"const 0 0; const 1 0; const 2 0; for 0; t: fortest 0 @e; tick; fornext 0 @t; drop 1; e: throw 0", 13, 8},
		verifyCase{"const 0 0; const 1 0; const 2 0; for 0; t: fortest 0 @e; list 3; tick; fornext 0 @t; e: throw 0", 13, 8},
	)
	c := threeProtos("fn 0 2; a: tick; jump @a")
	c.Protos[1].Params = 1
	checkCodeFault(t, "a parameter", c, impl.CodeFault{})
	c.Protos[1].Ins = insOf("fn 0 2; tick; jump 0")
	checkCodeFault(t, "back to the parameter", c, impl.CodeFault{})
	c.Protos[1].Params = 0
	checkCodeFault(t, "back to nothing", c, impl.CodeFault{Code: 13, Proto: 1})
}

// P5: the state at a handler: what is kept, two values, and nothing above; the guards from ahead of the ITry.
func TestVerifyHandlers(t *testing.T) {
	checkVerify(t, 6,
		verifyCase{"try @h 0; throw 0; h: binary 0 1 0 1; throw 0", 10, 1},
		verifyCase{"list 0; list 1; list 2; list 3; try @h 0; return 3; h: binary 0 1 0 1; throw 0", 0, 0},
		verifyCase{"list 0; list 1; list 2; list 3; try @h 0; return 3; h: return 2", 10, 6},
		verifyCase{"list 0; list 1; list 2; list 3; try @h 1; return 3; h: binary 1 1 1 2; return 0", 0, 0},
		verifyCase{"list 0; list 1; list 2; list 3; try @h 1; return 3; h: return 3", 10, 6},
		verifyCase{"list 0; list 1; list 2; list 3; try @h 2; return 3; h: binary 2 1 2 3; join 0 1; return 0", 0, 0},
		verifyCase{"list 0; list 1; try @h 4; return 1; h: binary 4 1 4 5; join 0 1; return 0", 0, 0},
		verifyCase{"const 0 0; box 0 -1; try @h 1; list 1; return 1; h: put 0 -2; throw 2", 0, 0},
		verifyCase{"try @h 0; list 5; return 5; h: endtry; throw 0", 11, 3},
		verifyCase{"scope 0; try @h 0; list 5; return 5; h: leave; throw 0", 0, 0},
		verifyCase{"a: tick; try @h 0; list 5; return 5; h: drop 0; drop 1; jump @a", 0, 0},
		verifyCase{"a: tick; try @h 0; list 5; return 5; h: drop 1; jump @a", 13, 0},
	)
}

// P5: the least instruction that waits is gone through first, and the first fault found is told.
func TestVerifyFirstFault(t *testing.T) {
	checkVerify(t, 4,
		verifyCase{"move 0 1; endtry; throw 0", 10, 0},
		verifyCase{"const 0 0; if 0 @b; endtry; throw 0; b: throw 1", 11, 2},
		verifyCase{"const 0 0; if 0 @b; throw 1; b: endtry; throw 0", 10, 2},
		verifyCase{"const 0 0; if 0 @b; tick; throw 1; b: endtry; throw 0", 10, 3},
		verifyCase{"const 0 0; if 0 @b; jump @c; b: endtry; c: throw 1", 11, 3},
		verifyCase{"jump @c; a: endtry; throw 0; c: const 0 0; if 0 @e; jump @a; e: throw 1", 11, 1},
		verifyCase{"jump @c; a: endtry; throw 0; c: const 0 0; if 0 @e; throw 1; e: jump @a", 10, 5},
		verifyCase{"jump @c; a: endtry; throw 0; c: const 0 0; if 0 @a; throw 1", 11, 1},
		verifyCase{"jump @c; a: tick; throw 1; c: const 0 0; unless 0 @a; throw 2", 10, 2},
		verifyCase{"const 0 0; if 0 @b; list 1; jump @m; b: tick; m: throw 2", 13, 5},
		verifyCase{"const 0 0; if 0 @b; list 1; jump @m; m: throw 2; b: jump @m", 10, 4},
		verifyCase{"const 0 0; if 0 @b; list 1; jump @m; b: tick; tick; m: throw 0", 13, 6},
		verifyCase{"const 0 0; if 0 @b; list 1; jump @m; m: throw 0; b: drop 1; jump @m; throw 0", 13, 4},
		verifyCase{"const 0 0; a: tick; drop 0; if 1 @a; throw 0", 10, 3},
		verifyCase{"const 0 0; a: tick; list 1; if 0 @a; throw 1", 13, 1},
		verifyCase{"const 0 0; a: tick; list 1; if 0 @a; jump @e; e: throw 1", 13, 1},
		verifyCase{"const 0 0; a: tick; list 1; jump @b; b: if 0 @a; throw 1", 13, 1},
		verifyCase{"a: tick; const 0 0; if -1 @a; scope 0; jump @a", 13, 0},
		verifyCase{"list 0; raw 0 -1 -1; throw 0", 10, 1},
		verifyCase{"const 0 0; try @h 1; each 0; throw 0; h: throw 1", 12, 2},
		verifyCase{"const 0 0; const 1 0; try @h 1; each 0; throw 0; h: throw 1", 10, 3},
		verifyCase{"const 0 0; list 1; try @h 1; defer -1 -2; throw 0; h: throw 1", 11, 3},
		verifyCase{"list 0; n: tick; const 1 0; if 1 @n; if -1 @n; throw 0", 13, 1},
	)
}

// P5: code 14: rings of silent steps.
func TestVerifyRings(t *testing.T) {
	for _, what := range []string{"line 1", "tick", "binary 1 12 0 0", "list 2; call 2 0 -3; drop 2", "list 2; call 2 0 -3; first 1 -3"} {
		checkVerify(t, 8,
			verifyCase{"const 0 0; const 1 0; a: " + what + "; jump @a", 0, 0},
			verifyCase{"const 0 0; const 1 0; a: at 1; " + what + "; at 2; jump @a", 0, 0},
			verifyCase{"const 0 0; const 1 0; a: if 0 @b; " + what + "; b: jump @a", 14, 2},
			verifyCase{"const 0 0; const 1 0; a: " + what + "; b: at 0; if 0 @b; jump @a", 14, 3 + strings.Count(what, ";")},
		)
	}
	for _, what := range []string{"at 1", "binary 1 1 0 0", "binary 1 11 0 0", "binary 1 13 0 0", "binary 1 18 0 0", "unary 1 22 0", "index 1 0 0", "set 0 0 0", "table 1",
		"scope 0; leave", "raw 0 0 0", "list 2; drop 2", "move 1 0", "const 2 0; for 0; drop 2", "drop 1; each 0", "const 2 0; box 2 -3; get 1 2; put 2 1; drop 2"} {
		checkVerify(t, 8,
			verifyCase{"const 0 0; const 1 0; a: " + what + "; jump @a", 14, 2},
			verifyCase{"const 0 0; const 1 0; a: " + what + "; tick; jump @a", 0, 0},
		)
	}
	checkVerify(t, 8,
		verifyCase{"jump 0", 14, 0},
		verifyCase{"const 0 0; jump 1", 14, 1},
		verifyCase{"jump @a; a: jump @b; b: jump @a", 14, 1},
		verifyCase{"jump @c; a: jump @b; tick; b: jump @a; c: jump @b", 14, 1},
		verifyCase{"tick; jump 0; jump 2", 0, 0},
		verifyCase{"tick; jump 0; a: at 1; b: jump @a; jump @b", 0, 0},
		verifyCase{"const 0 0; if 0 @b; a: jump @a; b: jump @b", 14, 2},
		verifyCase{"const 0 0; if 0 @b; a: tick; jump @a; b: at 1; jump @b", 14, 4},
		verifyCase{"const 0 0; if 0 @b; a: at 1; jump @a; b: tick; jump @b", 14, 2},
		verifyCase{"const 0 0; a: at 1; if 0 @b; if 0 @a; b: tick; throw 0", 14, 1},
		verifyCase{"const 0 0; a: tick; if 0 @a; b: if 0 @b; throw 0", 14, 3},
		verifyCase{"const 0 0; at 1; at 2; a: at 3; if 0 @a; throw 0", 14, 3},
		verifyCase{"const 0 0; a: if 0 @a; throw 0", 14, 1},
		verifyCase{"const 0 0; a: unless 0 @a; throw 0", 14, 1},
		verifyCase{"const 0 0; const 1 0; const 2 0; a: fortest 0 @a; throw 0", 14, 3},
		verifyCase{"const 0 0; const 1 0; const 2 0; a: fornext 0 @a; throw 0", 14, 3},
		verifyCase{"const 0 0; const 1 0; const 2 0; a: fornext 0 @b; throw 0; b: jump @a", 14, 3},
		verifyCase{"const 0 0; const 1 0; const 2 0; a: fornext 0 @b; throw 0; b: tick; jump @a", 0, 0},
	)
}

// P5: code 14: a turn of IEachNext is no silent step, its way to B is one; the ways of ITry are.
func TestVerifyRingsOfEach(t *testing.T) {
	const begin = "const 0 0; each 0; list 2; "
	checkVerify(t, 8,
		verifyCase{begin + "a: eachnext 0 @e 2; jump @a; e: throw 0", 0, 0},
		verifyCase{begin + "a: eachnext 0 @a 2; throw 0", 14, 3},
		verifyCase{begin + "a: eachnext 0 @e 2; throw 0; e: jump @a", 14, 3},
		verifyCase{begin + "a: eachnext 0 @e 2; throw 0; e: tick; jump @a", 0, 0},
		verifyCase{begin + "a: at 1; eachnext 0 @e 2; b: jump @a; e: jump @b", 14, 3},
		verifyCase{begin + "a: eachnext 0 @e 2; e: jump @a", 14, 3},
		verifyCase{begin + "a: eachnext 0 @e 2; b: if 0 @b; jump @a; e: throw 0", 14, 4},
		verifyCase{"a: try @h 0; const 0 0; throw 0; h: drop 0; drop 1; jump @a", 14, 0},
		verifyCase{"tick; a: try @h 0; const 0 0; throw 0; h: drop 0; drop 1; jump @a", 14, 1},
		verifyCase{"a: try @h 0; const 0 0; throw 0; h: drop 0; drop 1; tick; jump @a", 0, 0},
		verifyCase{"a: try @h 0; endtry; jump @a; h: throw 0", 14, 0},
		verifyCase{"a: try @h 0; tick; endtry; jump @a; h: throw 0", 0, 0},
		verifyCase{"scope 0; a: leave; scope 0; jump @a", 14, 1},
		verifyCase{"scope 0; a: leave; tick; scope 0; jump @a", 0, 0},
	)
}

// P5: code 14 comes behind codes 10 to 13 of its proto, and ahead of those of the next one.
func TestVerifyRingsAmongOthers(t *testing.T) {
	checkVerify(t, 4,
		verifyCase{"const 0 0; a: if 0 @a; throw 1", 10, 2},
		verifyCase{"const 0 0; a: if 0 @a; endtry; throw 0", 11, 2},
		verifyCase{"const 0 0; try @h 1; a: if 0 @a; drop 0; list 1; return 1; h: throw 1", 12, 3},
		verifyCase{"const 0 0; a: if 0 @a; drop 0; jump @a", 13, 1},
	)
	for _, c := range []struct {
		texts [3]string
		want  impl.CodeFault
	}{
		{[3]string{"fn 0 1; a: jump @a", "fn 0 2; throw 3", "throw 0"}, impl.CodeFault{Code: 14, At: 1}},
		{[3]string{"fn 0 1; throw 0", "fn 0 2; a: jump @a", "throw 0"}, impl.CodeFault{Code: 14, Proto: 1, At: 1}},
		{[3]string{"fn 0 1; throw 0", "fn 0 2; throw 3", "a: jump @a"}, impl.CodeFault{Code: 10, Proto: 1, At: 1}},
		{[3]string{"fn 0 1; throw 0", "fn 0 2; throw 0", "a: jump @a"}, impl.CodeFault{Code: 14, Proto: 2}},
		{[3]string{"fn 0 1; throw -3", "fn 0 2; throw 1", "throw 0"}, impl.CodeFault{Code: 10, At: 1}},
		{[3]string{"fn 0 1; throw -1", "tick; fn 0 2; leave; throw 0", "tick; tick; tick; endtry; throw 0"}, impl.CodeFault{Code: 11, Proto: 1, At: 2}},
		{[3]string{"fn 0 1; throw -1", "tick; fn 0 2; scope 0; throw 0", "tick; tick; tick; endtry; throw 0"}, impl.CodeFault{Code: 11, Proto: 2, At: 3}},
		{[3]string{"fn 0 1; throw -1", "jump @e; fn 0 2; e: tick; jump 0", "tick; throw 0"}, impl.CodeFault{Code: 10, Proto: 2, At: 1}},
	} {
		var code impl.Code
		for _, text := range c.texts {
			code.Protos = append(code.Protos, protoOf(4, text))
		}
		checkCodeFault(t, fmt.Sprint(c.texts), code, c.want)
		code.Protos[2].Ins[0].D = 1
		checkCodeFault(t, fmt.Sprint(c.texts, ", its shape wrong"), code, impl.CodeFault{Code: 5, Proto: 2})
	}
}
