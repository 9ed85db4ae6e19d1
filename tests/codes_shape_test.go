package tests

import (
	"fmt"
	"math"
	"slices"
	"strings"
	"testing"

	"loop.example/heddle/impl"
)

// checkShape: the fault of a code's shape, which CheckCode answers too.
func checkShape(t *testing.T, told string, c impl.Code, want impl.CodeFault) {
	t.Helper()
	if got := impl.CheckShape(c); got != want {
		t.Errorf("%s: CheckShape %v, want %v", told, got, want)
	}
	if got := impl.CheckCode(c); want.Code != 0 && got != want {
		t.Errorf("%s: CheckCode %v, want %v", told, got, want)
	}
	checkPlainCode(t, told, c)
}

// threeProtos: the text makes proto 1, in which these instructions stand, and that makes proto 2.
func threeProtos(text string) impl.Code {
	first := protoOf(3, "const 0 0; box 0 -1; fn 1 1; list 2; return 2")
	home := protoOf(5, text)
	home.Ups = []impl.Up{{Local: true}, {Local: true}}
	last := protoOf(2, "list 0; return 0")
	last.Ups = []impl.Up{{Index: 1}}
	return impl.Code{Protos: []impl.Proto{first, home, last}}
}

// withIns: the code with another instruction.
func withIns(c impl.Code, p, at int, ins impl.Ins) impl.Code {
	c = copiedCode(c)
	c.Protos[p].Ins[at] = ins
	return c
}

// P5: the Ops, types and limits have the numbers of chapter 10.
func TestCodeNumbers(t *testing.T) {
	ops := []int{impl.ILine, impl.IAt, impl.ITick, impl.IConst, impl.IMove, impl.IBox, impl.IGet, impl.IPut, impl.IUpGet, impl.IUpPut,
		impl.IFn, impl.ITable, impl.IRaw, impl.IRawAll, impl.IIndex, impl.ISet, impl.IUnary, impl.IBinary, impl.IJump, impl.IIf,
		impl.IUnless, impl.IList, impl.IAdd, impl.IJoin, impl.IFirst, impl.IPick, impl.ICopy, impl.ICall, impl.IReturn, impl.IThrow,
		impl.ITry, impl.IEndTry, impl.IScope, impl.IKeep, impl.IDefer, impl.ILeave, impl.IFor, impl.IForTest, impl.IForNext,
		impl.IEach, impl.IEachNext, impl.IDrop}
	if !slices.Equal(ops, countTo(43)[1:]) || impl.ILast != 42 || len(codeOps) != 42 {
		t.Error(ops, impl.ILast)
	}
	if got := []int{impl.TNone, impl.TValue, impl.TBox, impl.TList}; !slices.Equal(got, countTo(4)) {
		t.Error("types", got)
	}
	limits := []int{impl.MaxProtos, impl.MaxIns, impl.MaxRegs, impl.MaxConsts, impl.MaxGuards}
	if !slices.Equal(limits, []int{200, 6000, 250, 500, 50}) {
		t.Error("limits", limits)
	}
}

// everyOp: a verified code in which each instruction of the table is reached.
func everyOp() impl.Code {
	first := protoOf(8, "line 1; at 0; tick; const 0 0; move 1 0; box 2 -2; get 1 2; put 2 -2; fn 1 1; table 3; raw 3 0 0; list 4;"+
		"rawall 3 0 4; index 5 3 0; set 3 -1 -6; unary 0 21 1; binary 5 12 0 1; if -6 18; unless 0 19; add 4 1; join 4 4; pick 5 4 250;"+
		"copy 6 4; call 6 5 -7; first 5 -7; try 52 5; scope 5; keep 6; list 7; defer -6 -8; leave; endtry; const 5 0; move 6 5;"+
		"move 7 5; for 5; fortest 5 39; tick; fornext 5 36; drop 5; drop 6; drop 7; move 5 3; each 5; eachnext 5 48 7; line 2; drop 7;"+
		"jump 44; drop 5; drop 6; list 5; return -6; throw 6")
	inner := protoOf(2, "upget 0 0; upput 0 -1; list 0; return 0")
	inner.Ups = []impl.Up{{Local: true, Index: 2}}
	return impl.Code{Protos: []impl.Proto{first, inner}}
}

// P5: a code with every Op is verified; with any other number for an Op it is no code.
func TestEveryOp(t *testing.T) {
	c := everyOp()
	checkCodeFault(t, "every Op", c, impl.CodeFault{})
	met := make([]int, 43)
	for p, proto := range c.Protos {
		states := impl.States(c, p)
		for i, ins := range proto.Ins {
			if states[i].Reached {
				met[ins.Op]++
			}
		}
	}
	if i := slices.Index(met[1:], 0); i >= 0 {
		t.Error("not met:", codeOps[i].name)
	}
	for _, op := range []int{math.MinInt, -42, -1, 0, 43, 44, math.MaxInt} {
		for at := range 3 {
			checkShape(t, fmt.Sprint("Op ", op), withIns(threeProtos("tick; fn 0 2; list 0; return 0"), 1, at, impl.Ins{Op: op}), impl.CodeFault{Code: 5, Proto: 1, At: at})
		}
	}
}

// P5: code 5: each field of each Op at both ends of what the table allows, one beyond and far beyond; fields that are not named are 0.
func TestShapeFields(t *testing.T) {
	ends := map[string][2]int{"": {0, 0}, "line1": {1, 100000}, "line0": {0, 100000}, "const": {0, 1}, "up": {0, 1}, "ins": {0, 4},
		"unary": {19, 22}, "binary": {1, 18}, "element": {0, 250}, "keep": {0, 5}, "trykeep": {0, 3}, "v": {-5, 4}, "l": {-5, 4},
		">v": {0, 4}, ">b": {0, 4}, ">l": {0, 4}, ">n": {0, 4}, "=v": {0, 4}, "=b": {0, 4}, "=l": {0, 4}, "=vvv": {0, 2}, "=vv": {0, 3}, "=vn": {0, 3}}
	base := threeProtos("tick; fn 0 2; tick; list 0; return 0")
	for op := 1; op <= 42; op++ {
		sorts := fieldSorts(op)
		sound := impl.Ins{Op: op}
		for n, sort := range sorts {
			if sort != "proto" {
				sound = withField(sound, n, ends[sort][0])
			}
		}
		for n, sort := range sorts {
			if sort == "proto" {
				continue
			}
			least, most := ends[sort][0], ends[sort][1]
			for _, x := range []int{math.MinInt, math.MinInt + 1, -251, least - 1, least, least + 1, most - 1, most, most + 1, 100001, math.MaxInt - 1, math.MaxInt} {
				want := impl.CodeFault{}
				if x < least || x > most {
					want = impl.CodeFault{Code: 5, Proto: 1, At: 2}
				} else if op == impl.IFn {
					want = impl.CodeFault{Code: 6, Proto: 1, At: 2}
				}
				told := fmt.Sprintf("%s, field %d: %d", codeOps[op-1].name, n, x)
				checkShape(t, told, withIns(base, 1, 2, withField(sound, n, x)), want)
			}
		}
	}
	for b, want := range map[int]int{math.MinInt: 5, -1: 5, 0: 6, 1: 6, 2: 0, 3: 5, math.MaxInt: 5} {
		fault := impl.CodeFault{Code: want, Proto: 1, At: 1}
		if want == 0 {
			fault = impl.CodeFault{}
		}
		checkShape(t, fmt.Sprint("fn of ", b), withIns(base, 1, 1, impl.Ins{Op: impl.IFn, B: b}), fault)
	}
}

// P5: code 5: with few registers, consts, ups and instructions there is less that a field may be.
func TestShapeFieldsOfLittle(t *testing.T) {
	for _, c := range []struct {
		regs  int
		text  string
		fault int // where, or -1
	}{
		{0, "jump 0", -1}, {0, "jump 1", 0}, {0, "list 0; jump 0", 0}, {0, "return 0", 0}, {0, "return -1", 0}, {0, "throw -1; jump 0", 0},
		{0, "drop 0; jump 0", 0}, {0, "scope 0; jump 0", -1}, {0, "scope 1; jump 0", 0}, {0, "keep 0; jump 0", -1}, {0, "try 0 0; jump 0", 0},
		{1, "try 0 0; jump 0", 0}, {1, "try 0 -1; jump 0", 0}, {2, "try 0 0; jump 0", -1}, {2, "try 0 1; jump 0", 0}, {1, "return 0", -1}, {1, "return -1", -1},
		{1, "return -2", 0}, {1, "each 0; jump 0", 0}, {2, "each 0; jump 0", -1}, {1, "eachnext 0 0 0; jump 0", 0}, {2, "eachnext 0 0 0; jump 0", -1},
		{2, "for 0; jump 0", 0}, {3, "for 0; jump 0", -1}, {2, "fortest 0 0; jump 0", 0}, {2, "fornext 0 0; jump 0", 0}, {3, "tick; fornext 0 2; jump 0", -1},
		{3, "tick; fornext 0 3; jump 0", 1}, {250, "drop 249; jump 0", -1}, {250, "drop 250; jump 0", 0}, {250, "move 0 -250; jump 0", -1}, {250, "move 0 -251; jump 0", 0},
		{250, "try 0 248; scope 250; keep 250; jump 0", -1}, {250, "try 0 249; jump 0", 0}, {1, "upget 0 0; jump 0", 0}, {1, "upput 0 0; jump 0", 0},
		{1, "const 0 1; jump 0", -1}, {1, "const 0 2; jump 0", 0}, {1, "pick 0 0 250; jump 0", -1}, {1, "pick 0 0 251; jump 0", 0},
	} {
		want := impl.CodeFault{}
		if c.fault >= 0 {
			want = impl.CodeFault{Code: 5, At: c.fault}
		}
		checkShape(t, fmt.Sprint(c.regs, ": ", c.text), codeOf(c.regs, c.text), want)
	}
	none := codeOf(1, "const 0 0; jump 0")
	none.Protos[0].Consts = nil
	checkShape(t, "no consts", none, impl.CodeFault{Code: 5})
}

// P5: code 5: there are instructions, and the last is a jump, a return or a throw.
func TestShapeLast(t *testing.T) {
	for _, list := range [][]impl.Ins{nil, {}} {
		c := threeProtos("tick; fn 0 2; list 0; return 0")
		c.Protos[2].Ins = list
		checkShape(t, "no instructions in proto 2", c, impl.CodeFault{Code: 5, Proto: 2})
		checkShape(t, "no instructions", impl.Code{Protos: []impl.Proto{{Ins: list}}}, impl.CodeFault{Code: 5})
	}
	for op := 1; op <= 42; op++ {
		ins := impl.Ins{Op: op}
		for n, sort := range fieldSorts(op) {
			switch sort {
			case "line1", "binary":
				ins = withField(ins, n, 1)
			case "unary":
				ins = withField(ins, n, 19)
			case "proto":
				ins = withField(ins, n, 2)
			}
		}
		want := impl.CodeFault{Code: 5, Proto: 1, At: 1}
		if op == impl.IJump || op == impl.IReturn || op == impl.IThrow {
			want = impl.CodeFault{Code: 7, Proto: 2}
		}
		c := threeProtos("tick; tick")
		checkShape(t, "last is "+codeOps[op-1].name, withIns(c, 1, 1, ins), want)
		want.At = 0
		c.Protos[1].Ins = c.Protos[1].Ins[:1]
		checkShape(t, "alone is "+codeOps[op-1].name, withIns(c, 1, 0, ins), want)
	}
}

// P5: a keep is a number from 0 to Regs, with ITry at most Regs - 2.
func TestShapeKeeps(t *testing.T) {
	for _, regs := range []int{2, 3, 250} {
		for _, keep := range []int{-1, 0, 1, regs - 2, regs - 1, regs, regs + 1} {
			for op, most := range map[string]int{"try 0": regs - 2, "scope": regs, "keep": regs} {
				want := impl.CodeFault{}
				if keep < 0 || keep > most {
					want = impl.CodeFault{Code: 5, At: 1}
				}
				text := fmt.Sprintf("tick; %s %d; jump 0", op, keep)
				checkShape(t, fmt.Sprint(regs, ": ", text), codeOf(regs, text), want)
			}
		}
	}
}

// manyProtos: a text that makes so many others, all with so many ticks in them ahead of a jump.
func manyProtos(count, ticks int) impl.Code {
	var c impl.Code
	for n := range count {
		p := impl.Proto{Regs: 1, Ins: slices.Repeat([]impl.Ins{{Op: impl.ITick}}, ticks)}
		for made := 1; n == 0 && made < count; made++ {
			p.Ins = append(p.Ins, impl.Ins{Op: impl.IFn, B: made})
		}
		p.Ins = append(p.Ins, impl.Ins{Op: impl.ITick}, impl.Ins{Op: impl.IJump})
		c.Protos = append(c.Protos, p)
	}
	return c
}

// P5: code 1: no protos, 200 and 201, 6000 instructions and 6001 over several protos; it comes ahead of all others.
func TestShapeSizes(t *testing.T) {
	checkShape(t, "no protos", impl.Code{}, impl.CodeFault{Code: 1})
	checkShape(t, "an empty list of protos", impl.Code{Protos: []impl.Proto{}}, impl.CodeFault{Code: 1})
	for count, code := range map[int]int{1: 0, 2: 0, 199: 0, 200: 0, 201: 1} {
		checkShape(t, fmt.Sprint(count, " protos"), manyProtos(count, 0), impl.CodeFault{Code: code})
	}
	for _, extra := range []int{-1, 0, 1} {
		for p := range 3 {
			c := manyProtos(3, 1000)
			size := 0
			for _, proto := range c.Protos {
				size += len(proto.Ins)
			}
			more := slices.Repeat([]impl.Ins{{Op: impl.ITick}}, 6000-size+extra)
			c.Protos[p].Ins = append(more, c.Protos[p].Ins...)
			checkShape(t, fmt.Sprint(6000+extra, " instructions"), c, impl.CodeFault{Code: max(0, extra)})
			c.Protos[1].Regs = -1
			checkShape(t, fmt.Sprint(6000+extra, " instructions, and no registers"), c, impl.CodeFault{Code: 2 - max(0, extra), Proto: 1 - max(0, extra)})
		}
	}
	one := impl.Code{Protos: []impl.Proto{{Ins: append(slices.Repeat([]impl.Ins{{Op: impl.ITick}}, 5999), impl.Ins{Op: impl.IJump})}}}
	checkShape(t, "6000 in one", one, impl.CodeFault{})
	one.Protos[0].Ins = append(one.Protos[0].Ins, impl.Ins{Op: impl.IJump})
	checkShape(t, "6001 in one", one, impl.CodeFault{Code: 1})
	one.Protos[0].Ins = nil
	checkShape(t, "none", one, impl.CodeFault{Code: 5})
}

// P5: code 2: each of its conditions alone, at both ends and beyond.
func TestShapeHeads(t *testing.T) {
	const tick = "tick; fn 0 2; tick; jump 0"
	check := func(told string, p int, fits bool, spoil func(p *impl.Proto)) {
		t.Helper()
		c := threeProtos(tick)
		c.Protos[1].Ups = []impl.Up{{Local: true}, {Local: true}}
		spoil(&c.Protos[p])
		want := impl.CodeFault{}
		if !fits {
			want = impl.CodeFault{Code: 2, Proto: p}
		}
		checkShape(t, fmt.Sprint("proto ", p, " ", told), c, want)
	}
	for p := range 3 {
		for size, fits := range map[int]bool{0: true, 1: true, 39: true, 40: true, 41: false, 4000: false} {
			check(fmt.Sprint("name of ", size), p, fits, func(p *impl.Proto) { p.Name = strings.Repeat("n", size) })
		}
		check("name of 20 runes and 40 bytes", p, true, func(p *impl.Proto) { p.Name = strings.Repeat("ä", 20) })
		check("name of 21 runes and 42 bytes", p, false, func(p *impl.Proto) { p.Name = strings.Repeat("ä", 21) })
		for line, fits := range map[int]bool{math.MinInt: false, -1: false, 0: true, 1: true, 99999: true, 100000: true, 100001: false, math.MaxInt: false} {
			check(fmt.Sprint("line ", line), p, fits, func(p *impl.Proto) { p.Line = line })
		}
		for regs, fits := range map[int]bool{math.MinInt: false, -1: false, 5: true, 249: true, 250: true, 251: false, math.MaxInt: false} {
			check(fmt.Sprint("regs ", regs), p, fits, func(p *impl.Proto) { p.Regs = regs })
		}
		for count, fits := range map[int]bool{0: true, 499: true, 500: true, 501: false} {
			check(fmt.Sprint("consts ", count), p, fits || count == 0, func(p *impl.Proto) {
				p.Consts, p.Ins[0] = make([]impl.Value, count), impl.Ins{Op: impl.ITick}
			})
		}
		for count, fits := range map[int]bool{0: true, 1: p > 0, 249: p > 0, 250: p > 0, 251: false} {
			if p == 1 && count < 2 {
				continue
			}
			check(fmt.Sprint("ups ", count), p, fits, func(proto *impl.Proto) {
				proto.Ups = slices.Repeat([]impl.Up{{Local: true}}, count)
			})
		}
		for _, rest := range []bool{false, true} {
			for _, params := range []int{math.MinInt, -1, 0, 1, 4, 5, 6, math.MaxInt} {
				most := 5
				if rest {
					most = 4
				}
				if p == 0 {
					most = 0
				}
				check(fmt.Sprint("params ", params, rest), p, 0 <= params && params <= most, func(p *impl.Proto) {
					p.Regs, p.Params, p.Rest = 5, params, rest
				})
			}
		}
	}
	for _, rest := range []bool{false, true} {
		c := impl.Code{Protos: []impl.Proto{{Rest: rest, Ins: insOf("tick; jump 0")}}}
		want := impl.CodeFault{}
		if rest {
			want.Code = 2
		}
		checkShape(t, fmt.Sprint("no registers, rest ", rest), c, want)
	}
}

// P5: code 3: a const of each Kind, at the ends of what is valid, and what is no const.
func TestShapeConsts(t *testing.T) {
	minus := math.Copysign(0, -1)
	for i, c := range []struct {
		v    impl.Value
		fits bool
	}{
		{impl.Value{}, true}, {vBool(false), true}, {vBool(true), true}, {impl.Value{Kind: impl.KBool, Num: 2}, false}, {impl.Value{Kind: impl.KBool, Num: -1}, false},
		{vInt(0), true}, {vInt(math.MinInt64), true}, {vInt(math.MaxInt64), true}, {vFlt(0), true}, {vFlt(minus), true}, {vFlt(1.5), true},
		{vFlt(math.Inf(1)), true}, {vFlt(math.Inf(-1)), true}, {vFlt(math.NaN()), false}, {vFlt(math.Float64frombits(0xfff0000000000001)), false},
		{vStr(""), true}, {vStr(strings.Repeat("s", 4000)), true}, {vStr(strings.Repeat("s", 4001)), false}, {vStr("\x00\xff"), true},
		{vRef(impl.KTable, 0), false}, {vRef(impl.KTable, 1), false}, {vRef(impl.KFn, 0), false}, {vRef(impl.KTask, 0), false}, {vRef(impl.KTable, -1), false},
		{impl.Value{Kind: impl.KBuiltin}, true}, {impl.Value{Kind: impl.KBuiltin, Num: 14}, true}, {impl.Value{Kind: impl.KBuiltin, Num: 15}, false},
		{impl.Value{Kind: impl.KBuiltin, Num: -1}, false}, {impl.Value{Kind: 9}, false}, {impl.Value{Kind: -1}, false},
		{impl.Value{Num: 1}, false}, {impl.Value{Ref: 1}, false}, {impl.Value{Str: "s"}, false}, {impl.Value{Flt: 1}, false},
		{impl.Value{Flt: minus}, false}, {impl.Value{Kind: impl.KBool, Num: 1, Flt: minus}, false}, {impl.Value{Kind: impl.KInt, Num: 1, Flt: minus}, false},
		{impl.Value{Kind: impl.KStr, Str: "s", Flt: minus}, false}, {impl.Value{Kind: impl.KBuiltin, Flt: minus}, false}, {impl.Value{Kind: impl.KInt, Flt: math.NaN()}, false},
		{impl.Value{Kind: impl.KInt, Num: 1, Ref: 1}, false}, {impl.Value{Kind: impl.KFlt, Flt: 1, Num: 1}, false}, {impl.Value{Kind: impl.KStr, Str: "s", Num: 1}, false},
	} {
		for _, at := range []int{0, 1, 499} {
			for p := range 3 {
				code := threeProtos("tick; fn 0 2; list 0; return 0")
				code.Protos[p].Consts = append(make([]impl.Value, at), c.v)
				want := impl.CodeFault{}
				if !c.fits {
					want = impl.CodeFault{Code: 3, Proto: p, At: at}
				}
				checkShape(t, fmt.Sprint("const ", i, c.v.Kind), code, want)
			}
		}
	}
}

// P5: code 4: names of variables, their registers and where they hold.
func TestShapeNamed(t *testing.T) {
	for _, c := range []struct {
		n    impl.Named
		fits bool
	}{
		{impl.Named{Name: "", To: 1}, false}, {impl.Named{Name: "a"}, true}, {impl.Named{Name: strings.Repeat("a", 40)}, true}, {impl.Named{Name: strings.Repeat("a", 41)}, false},
		{impl.Named{Name: "a", Reg: -1}, false}, {impl.Named{Name: "a", Reg: 4}, true}, {impl.Named{Name: "a", Reg: 5}, false}, {impl.Named{Name: "a", Reg: math.MinInt}, false},
		{impl.Named{Name: "a", Reg: math.MaxInt}, false}, {impl.Named{Name: "a", From: -1, To: 1}, false}, {impl.Named{Name: "a", From: -1, To: -1}, false},
		{impl.Named{Name: "a", From: 0, To: 4}, true}, {impl.Named{Name: "a", From: 4, To: 4}, true}, {impl.Named{Name: "a", From: 3, To: 4}, true},
		{impl.Named{Name: "a", From: 0, To: 5}, false}, {impl.Named{Name: "a", From: 5, To: 5}, false}, {impl.Named{Name: "a", From: 2, To: 1}, false},
		{impl.Named{Name: "a", From: 2, To: 2}, true}, {impl.Named{Name: "a", From: 0, To: math.MaxInt}, false}, {impl.Named{Name: "a", From: math.MinInt, To: 4}, false},
	} {
		for _, at := range []int{0, 2, 499} {
			code := threeProtos("tick; fn 0 2; list 0; return 0")
			code.Protos[1].Named = append(slices.Repeat([]impl.Named{{Name: "x", To: 3}}, at), c.n)
			want := impl.CodeFault{}
			if !c.fits {
				want = impl.CodeFault{Code: 4, Proto: 1, At: at}
			}
			checkShape(t, fmt.Sprint("named ", at, c.n), code, want)
		}
	}
	for count, want := range map[int]impl.CodeFault{499: {}, 500: {}, 501: {Code: 4, Proto: 2, At: 500}, 502: {Code: 4, Proto: 2, At: 500}} {
		code := threeProtos("tick; fn 0 2; list 0; return 0")
		code.Protos[2].Named = slices.Repeat([]impl.Named{{Name: "x", Reg: 1, To: 2}}, count)
		checkShape(t, fmt.Sprint(count, " named"), code, want)
		if count == 502 {
			code.Protos[2].Named[17].Name = ""
			checkShape(t, "502 named, one without a name", code, impl.CodeFault{Code: 4, Proto: 2, At: 17})
		}
	}
	none := impl.Code{Protos: []impl.Proto{{Ins: insOf("tick; jump 0"), Named: []impl.Named{{Name: "a"}}}}}
	checkShape(t, "no registers", none, impl.CodeFault{Code: 4})
}

// P5: code 6: which IFn may stand for a proto, and what its Ups may be.
func TestShapeFns(t *testing.T) {
	const jump = "tick; jump 0"
	proto := func(text string, ups ...impl.Up) impl.Proto {
		return impl.Proto{Regs: 4, Ups: ups, Ins: insOf(text)}
	}
	for _, c := range []struct {
		told   string
		protos []impl.Proto
		want   impl.CodeFault
	}{
		{"its own", []impl.Proto{proto("fn 0 0; " + jump)}, impl.CodeFault{Code: 6}},
		{"its own, further in", []impl.Proto{proto("fn 0 1; " + jump), proto("tick; fn 0 1; " + jump)}, impl.CodeFault{Code: 6, Proto: 1, At: 1}},
		{"one ahead", []impl.Proto{proto("fn 0 1; fn 0 2; " + jump), proto(jump), proto("fn 0 1; " + jump)}, impl.CodeFault{Code: 6, Proto: 2}},
		{"the text", []impl.Proto{proto("fn 0 1; " + jump), proto("fn 0 0; " + jump)}, impl.CodeFault{Code: 6, Proto: 1}},
		{"one ahead that nobody makes", []impl.Proto{proto("fn 0 2; " + jump), proto(jump), proto("fn 0 1; " + jump)}, impl.CodeFault{Code: 6, Proto: 2}},
		{"twice in one", []impl.Proto{proto("fn 0 1; tick; fn 0 1; fn 0 1; " + jump), proto(jump)}, impl.CodeFault{Code: 6, At: 2}},
		{"in two", []impl.Proto{proto("fn 0 1; fn 0 2; " + jump), proto("tick; fn 1 2; " + jump), proto(jump)}, impl.CodeFault{Code: 6, Proto: 1, At: 1}},
		{"in another first", []impl.Proto{proto("fn 0 1; " + jump), proto("tick; fn 1 2; " + jump), proto("fn 0 3; " + jump), proto(jump)}, impl.CodeFault{}},
		{"in the one behind", []impl.Proto{proto("fn 0 2; fn 0 1; " + jump), proto("fn 1 3; " + jump), proto("tick; fn 0 3; " + jump), proto(jump)}, impl.CodeFault{Code: 6, Proto: 2, At: 1}},
		{"never reached, and yet two", []impl.Proto{proto("fn 0 1; jump 0; fn 0 1; jump 0"), proto(jump)}, impl.CodeFault{Code: 6, At: 2}},
		{"made in the other order", []impl.Proto{proto("fn 0 2; fn 0 1; " + jump), proto(jump), proto(jump)}, impl.CodeFault{}},
	} {
		checkShape(t, c.told, impl.Code{Protos: c.protos}, c.want)
	}
	for _, c := range []struct {
		up   impl.Up
		fits bool
	}{
		{impl.Up{Local: true, Index: 0}, true}, {impl.Up{Local: true, Index: 3}, true}, {impl.Up{Local: true, Index: 4}, false}, {impl.Up{Local: true, Index: -1}, false},
		{impl.Up{Index: 0}, true}, {impl.Up{Index: 1}, true}, {impl.Up{Index: 2}, false}, {impl.Up{Index: -1}, false},
		{impl.Up{Local: true, Index: math.MaxInt}, false}, {impl.Up{Index: math.MaxInt}, false}, {impl.Up{Index: math.MinInt}, false}, {impl.Up{Local: true, Index: math.MinInt}, false},
	} {
		code := impl.Code{Protos: []impl.Proto{
			proto("tick; fn 0 1; " + jump), proto("tick; tick; fn 0 2; "+jump, impl.Up{Local: true}, impl.Up{Local: true}), proto(jump, impl.Up{Local: true, Index: 2}, c.up)}}
		want := impl.CodeFault{}
		if !c.fits {
			want = impl.CodeFault{Code: 6, Proto: 1, At: 2}
		}
		checkShape(t, fmt.Sprint("up ", c.up), code, want)
	}
	text := impl.Code{Protos: []impl.Proto{proto("fn 0 1; " + jump), proto(jump, impl.Up{})}}
	checkShape(t, "an up of the text", text, impl.CodeFault{Code: 6})
}

// P5: code 7: each proto but the text is made by an IFn.
func TestShapeUnmade(t *testing.T) {
	for _, c := range []struct {
		made []int // by the text, of protos 1 to 4
		want int
	}{
		{nil, 1}, {[]int{1}, 2}, {[]int{2, 3, 4}, 1}, {[]int{1, 3, 4}, 2}, {[]int{1, 2, 3}, 4}, {[]int{3}, 1}, {[]int{1, 2, 3, 4}, 0}, {[]int{4, 3, 2, 1}, 0},
	} {
		code := impl.Code{Protos: make([]impl.Proto, 5)}
		for p := range code.Protos {
			code.Protos[p] = impl.Proto{Regs: 1, Ins: insOf("tick; jump 0")}
		}
		for _, made := range c.made {
			code.Protos[0].Ins = append([]impl.Ins{{Op: impl.IFn, B: made}}, code.Protos[0].Ins...)
		}
		want := impl.CodeFault{}
		if c.want > 0 {
			want = impl.CodeFault{Code: 7, Proto: c.want}
		}
		checkShape(t, fmt.Sprint("made ", c.made), code, want)
	}
}

// shapeSpoils: for each code of a shape's fault, how a proto of a code comes to have it, told at 0, 1 or 2.
func shapeSpoils(at int) []func(p *impl.Proto) {
	return []func(p *impl.Proto){
		2: func(p *impl.Proto) { p.Line = -1 },
		3: func(p *impl.Proto) { p.Consts = append(make([]impl.Value, at), vRef(impl.KFn, 0)) },
		4: func(p *impl.Proto) { p.Named = append(slices.Repeat([]impl.Named{{Name: "a"}}, at), impl.Named{}) },
		5: func(p *impl.Proto) { p.Ins[at].D = 1 },
		6: func(p *impl.Proto) { p.Ins[at] = impl.Ins{Op: impl.IFn} },
		7: func(p *impl.Proto) { p.Ins[3] = impl.Ins{Op: impl.ITick} },
	}
}

// P5: of several faults of shape the one that comes first by its code, then by its proto, then by At.
func TestShapeOrder(t *testing.T) {
	base := func() impl.Code {
		var c impl.Code
		for p := range 4 {
			c.Protos = append(c.Protos, impl.Proto{Regs: 2, Ins: insOf(fmt.Sprintf("tick; tick; tick; fn 0 %d; jump 0", p+1))})
		}
		c.Protos[3].Ins[3] = impl.Ins{Op: impl.ITick}
		return c
	}
	checkShape(t, "no fault", base(), impl.CodeFault{})
	for a := 2; a <= 7; a++ {
		for b := 2; b <= 7; b++ {
			for pair := range 9 {
				p, q := pair/3, pair%3
				for places := range 9 {
					i, j := places/3, places%3
					c := base()
					shapeSpoils(i)[a](&c.Protos[p])
					shapeSpoils(j)[b](&c.Protos[q])
					first, second := impl.CodeFault{Code: a, Proto: p, At: i}, impl.CodeFault{Code: b, Proto: q, At: j}
					for _, f := range []*impl.CodeFault{&first, &second} {
						if f.Code == 2 || f.Code == 7 {
							f.At = 0
						}
						if f.Code == 7 {
							f.Proto++
						}
					}
					if p == q && i == j && a != b && a > 4 && b > 4 || p == q && a == b && a < 5 && i != j {
						continue // the second spoils what the first did
					}
					want := first
					if b < a || a == b && (second.Proto < first.Proto || second.Proto == first.Proto && second.At < first.At) {
						want = second
					}
					if got := impl.CheckShape(c); got != want || impl.CheckCode(c) != want || plainShape(c) != want {
						t.Errorf("%v and %v: %v, want %v", first, second, got, want)
					}
				}
			}
		}
	}
}
