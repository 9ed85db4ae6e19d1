package tests

import (
	"fmt"
	"slices"
	"testing"

	"loop.example/heddle/impl"
)

// checkCompileCode: what Compile answers of a unit that has no code: its Code alone, and the unit as it was.
func checkCompileCode(t *testing.T, told string, u impl.Unit, code int) {
	t.Helper()
	before := copiedUnit(u)
	if got := impl.Compile(u); got.Code != code || len(got.Made.Protos) != 0 {
		t.Errorf("%s: code %d with %d protos, want code %d", told, got.Code, len(got.Made.Protos), code)
	}
	if !sameUnit(u, before) {
		t.Errorf("%s: the unit has changed", told)
	}
}

// checkFits: a unit whose code has just as much of something as a code may have, and one that has one more.
func checkFits(t *testing.T, told string, most impl.Unit, measure func(c impl.Code) int, limit int, over impl.Unit) {
	t.Helper()
	for _, u := range []impl.Unit{most, over} {
		if fault := impl.CheckUnit(u); fault.Code != 0 {
			t.Fatalf("%s: %v", told, fault)
		}
	}
	if got := measure(compiled(t, told, most)); got != limit {
		t.Errorf("%s: %d, want %d", told, got, limit)
	}
	if got := measure(plainCompiled(over)); got != limit+1 {
		t.Errorf("%s: %d, want %d", told, got, limit+1)
	}
	checkCompileCode(t, told, over, 2)
	checkPlans(t, told, over)
}

// P6: a unit that is not valid, by each code of CheckUnit: Code 1, and nothing else.
func TestCompileNotValid(t *testing.T) {
	checkCompileCode(t, "no fns", impl.Unit{}, 1)
	checkCompileCode(t, "a fn without nodes", impl.Unit{Fns: []impl.Fn{{}}}, 1)
	ground := spoilable()
	compiled(t, "the ground", ground)
	for _, s := range someSpoilers(ground) {
		u := copiedUnit(ground)
		s.spoil(u)
		checkCompileCode(t, fmt.Sprint(s.want), u, 1)
	}
	checkCompileCode(t, "301 fns", unitOfFns(301), 1)
	// What is not valid and too large is not valid.
	u := deepLoops(180, 20)
	u.Fns[0].Nodes[0].Line = -1
	checkCompileCode(t, "too large as well", u, 1)
}

// unitOfFns: fn 0 makes all others.
func unitOfFns(count int) impl.Unit {
	var stats []*plainTwig
	for first := 1; first < count; first += 200 {
		var made []*plainTwig
		for g := first; g < min(first+200, count); g++ {
			made = append(made, refTwig(impl.NFn, g))
		}
		stats = append(stats, statTwig(impl.NReturn, nil, made...))
	}
	u := impl.Unit{Fns: []impl.Fn{{Nodes: blockTwig(stats...).laid()}}}
	for range count - 1 {
		u.Fns = append(u.Fns, impl.Fn{Nodes: blockTwig().laid()})
	}
	return u
}

// P6: as many fns as a code may have protos; a unit may have more.
func TestCompileMostFns(t *testing.T) {
	protos := func(c impl.Code) int { return len(c.Protos) }
	checkFits(t, "fns", unitOfFns(200), protos, 200, unitOfFns(201))
	checkCompileCode(t, "as many fns as a unit may have", unitOfFns(300), 2)
}

// unitOfIns: NReturns, of three instructions each, and a NLet of so many variables, of one and two for each of them; and the two at the
// end of every fn.
func unitOfIns(returns, vars int) impl.Unit {
	var blocks []*plainTwig
	for first := 0; first < returns; first += 200 {
		var stats []*plainTwig
		for range min(200, returns-first) {
			stats = append(stats, statTwig(impl.NReturn, nil))
		}
		blocks = append(blocks, blockTwig(stats...))
	}
	blocks = append(blocks, statTwig(impl.NLet, countTo(vars)))
	return impl.Unit{Fns: []impl.Fn{{Vars: slices.Repeat([]string{"v"}, vars), Nodes: blockTwig(blocks...).laid()}}}
}

// P6: as many instructions as a code may have, in one proto and in several.
func TestCompileMostIns(t *testing.T) {
	ins := func(c impl.Code) int {
		count := 0
		for _, p := range c.Protos {
			count += len(p.Ins)
		}
		return count
	}
	checkFits(t, "instructions", unitOfIns(1997, 3), ins, 6000, unitOfIns(1998, 2))
	// The text itself has nine, fn 1 has 3000.
	several := func(last impl.Unit) impl.Unit {
		u := unitOfFns(3)
		u.Fns[1], u.Fns[2] = unitOfIns(997, 3).Fns[0], last.Fns[0]
		return u
	}
	checkFits(t, "instructions of three fns", several(unitOfIns(994, 3)), ins, 6000, several(unitOfIns(995, 2)))
}

// withStatement: the last fn with a statement more.
func withStatement(u impl.Unit, s *plainTwig) impl.Unit {
	last := &u.Fns[len(u.Fns)-1]
	last.Nodes = blockTwig(plainTwigOf(last.Nodes, len(last.Nodes)-1), s).laid()
	return u
}

// unitOfConsts: a text with so many ints.
func unitOfConsts(count int) impl.Unit {
	var stats []*plainTwig
	for first := 0; first < count; first += 200 {
		var kids []*plainTwig
		for n := range min(200, count-first) {
			kids = append(kids, intTwig(int64(first+n)))
		}
		stats = append(stats, statTwig(impl.NReturn, nil, kids...))
	}
	return impl.Unit{Fns: []impl.Fn{{Nodes: blockTwig(stats...).laid()}}}
}

// P6: as many consts as a proto may have; the same ones over again are no more.
func TestCompileMostConsts(t *testing.T) {
	consts := func(c impl.Code) int { return len(c.Protos[0].Consts) }
	checkFits(t, "consts", unitOfConsts(500), consts, 500, unitOfConsts(501))
	again := unitOfConsts(500)
	compiled(t, "a const again", withStatement(again, statTwig(impl.NThrow, nil, intTwig(499))))
	checkCompileCode(t, "a const more", withStatement(again, statTwig(impl.NThrow, nil, exprTwig(impl.NNil))), 2)
}

// P6: as many variables as a fn may have are not too many names.
func TestCompileMostNames(t *testing.T) {
	u := impl.Unit{Fns: []impl.Fn{{Vars: slices.Repeat([]string{"v"}, 200), Nodes: blockTwig(statTwig(impl.NLet, countTo(200))).laid()}}}
	if c := compiled(t, "200 variables", u); len(c.Protos[0].Named) != 200 || c.Protos[0].Regs != 200 {
		t.Error(len(c.Protos[0].Named), c.Protos[0].Regs)
	}
	u.Fns[0].Vars = append(u.Fns[0].Vars, "v")
	checkCompileCode(t, "201 variables", u, 1)
}

// unitOfRegs: 200 variables, and a sum of so many parts, each of which waits for those behind it.
func unitOfRegs(parts int, rest bool) impl.Unit {
	sum := intTwig(1)
	for range parts - 1 {
		sum = twigOf(impl.Node{Kind: impl.NBinary, Op: impl.OpAdd}, intTwig(1), sum)
	}
	body := blockTwig(statTwig(impl.NLet, countTo(200)), statTwig(impl.NThrow, nil, sum))
	return impl.Unit{Fns: []impl.Fn{{Rest: rest, Vars: slices.Repeat([]string{"v"}, 200), Nodes: body.laid()}}}
}

// P6: as many registers as a proto may have, by expressions, by lists, by parameters, and where nothing is ever reached.
func TestCompileMostRegs(t *testing.T) {
	regs := func(c impl.Code) int { return c.Protos[len(c.Protos)-1].Regs }
	checkFits(t, "registers", unitOfRegs(50, false), regs, 250, unitOfRegs(51, false))
	checkFits(t, "registers with Rest", unitOfRegs(49, true), regs, 250, unitOfRegs(50, true))
	targets := func(count int) impl.Unit {
		kids := []*plainTwig{}
		for range count {
			kids = append(kids, exprTwig(impl.NIndex, intTwig(1), intTwig(2)))
		}
		set := twigOf(impl.Node{Kind: impl.NSet, Line: 1, Num: int64(count)}, append(kids, intTwig(3))...)
		return impl.Unit{Fns: []impl.Fn{{Nodes: blockTwig(set).laid()}}}
	}
	// Three registers for each target, a list and what comes into it.
	if got := compiled(t, "82 targets", targets(82)).Protos[0].Regs; got != 248 {
		t.Error(got)
	}
	checkCompileCode(t, "83 targets", targets(83), 2)
	params := func(parts int) impl.Unit {
		u := unitOfFns(2)
		u.Fns[1] = unitOfRegs(parts, false).Fns[0]
		u.Fns[1].Params = 200
		u.Fns[1].Nodes = blockTwig(plainTwigOf(u.Fns[1].Nodes, len(u.Fns[1].Nodes)-1).kids[1]).laid()
		return u
	}
	checkFits(t, "registers behind parameters", params(50), regs, 250, params(51))
	never := func(parts int) impl.Unit {
		u := unitOfRegs(parts, false)
		body := plainTwigOf(u.Fns[0].Nodes, len(u.Fns[0].Nodes)-1)
		u.Fns[0].Nodes = blockTwig(append([]*plainTwig{statTwig(impl.NReturn, nil)}, body.kids...)...).laid()
		return u
	}
	checkFits(t, "registers that nothing reaches", never(50), regs, 250, never(51))
}

// unitOfGuards: blocks with a NDefer within one another, ahead of all of them some statements.
func unitOfGuards(count int, ahead ...*plainTwig) impl.Unit {
	var inner []*plainTwig
	for range count {
		call := exprTwig(impl.NCall, exprTwig(impl.NNil))
		inner = []*plainTwig{blockTwig(append([]*plainTwig{statTwig(impl.NDefer, nil, call)}, inner...)...)}
	}
	return impl.Unit{Fns: []impl.Fn{{Nodes: blockTwig(append(ahead, inner...)...).laid()}}}
}

// triesDeep: NTrys in the first or second NBlocks of one another, with blocks that have a NDefer in the innermost one.
func triesDeep(tries, defers, second int) impl.Unit {
	inner := plainTwigOf(unitOfGuards(defers).Fns[0].Nodes, len(unitOfGuards(defers).Fns[0].Nodes)-1)
	vars := 0
	for range tries {
		kids := []*plainTwig{blockTwig(), blockTwig()}
		kids[second] = inner
		inner = blockTwig(statTwig(impl.NTry, []int{vars, vars + 1}, kids...))
		vars += 2
	}
	return impl.Unit{Fns: []impl.Fn{{Vars: slices.Repeat([]string{"v"}, vars), Nodes: inner.laid()}}}
}

// P6: as many guards as an instruction may stand in. Those of a catch are off in it; those that nothing reaches are none.
func TestCompileMostGuards(t *testing.T) {
	guards := func(c impl.Code) int {
		most, now := 0, 0
		for _, ins := range c.Protos[0].Ins {
			switch ins.Op {
			case impl.ITry, impl.IScope:
				now++
			case impl.IEndTry, impl.ILeave:
				now--
			}
			most = max(most, now)
		}
		return most
	}
	checkFits(t, "blocks with defers", unitOfGuards(50), guards, 50, unitOfGuards(51))
	checkFits(t, "tries and defers", triesDeep(30, 20, 0), guards, 50, triesDeep(30, 21, 0))
	compiled(t, "tries as deep as nodes may stand", triesDeep(50, 0, 0))
	compiled(t, "catches", triesDeep(40, 11, 1))
	compiled(t, "guards that nothing reaches", unitOfGuards(51, statTwig(impl.NReturn, nil)))
}
