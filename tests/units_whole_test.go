package tests

import (
	"fmt"
	"math"
	"slices"
	"strings"
	"testing"

	"loop.example/heddle/impl"
)

func blockTwig(stats ...*plainTwig) *plainTwig {
	return twigOf(impl.Node{Kind: impl.NBlock, Line: 1}, stats...)
}

func statTwig(kind int, refs []int, kids ...*plainTwig) *plainTwig {
	return twigOf(impl.Node{Kind: kind, Line: 1, Refs: refs}, kids...)
}

func exprTwig(kind int, kids ...*plainTwig) *plainTwig { return twigOf(impl.Node{Kind: kind}, kids...) }

func refTwig(kind, ref int) *plainTwig { return twigOf(impl.Node{Kind: kind, Refs: []int{ref}}) }

func intTwig(n int64) *plainTwig { return twigOf(impl.Node{Kind: impl.NInt, Num: n}) }

// wholeUnit: a valid unit with every Kind of the tables.
func wholeUnit() impl.Unit {
	null := func() *plainTwig { return exprTwig(impl.NNil) }
	call := func(args ...*plainTwig) *plainTwig {
		return exprTwig(impl.NCall, append([]*plainTwig{twigOf(impl.Node{Kind: impl.NBuiltin, Num: 14})}, args...)...)
	}
	sets := twigOf(impl.Node{Kind: impl.NSet, Line: 3, Num: 2}, refTwig(impl.NVar, 0), exprTwig(impl.NIndex, refTwig(impl.NVar, 0), intTwig(leastInt)),
		twigOf(impl.Node{Kind: impl.NUnary, Op: 22}, exprTwig(impl.NTrue)), twigOf(impl.Node{Kind: impl.NBinary, Op: 18}, exprTwig(impl.NFalse), intTwig(mostInt)))
	table := twigOf(impl.Node{Kind: impl.NTable, Op: 1}, twigOf(impl.Node{Kind: impl.NStr, Str: strings.Repeat("\xff", 4000)}), null(), intTwig(7), exprTwig(impl.NRest))
	text := blockTwig(
		statTwig(impl.NLet, []int{0}, null(), call()),
		statTwig(impl.NFor, []int{1}, refTwig(impl.NVar, 0), twigOf(impl.Node{Kind: impl.NFlt, Flt: math.Inf(-1)}), intTwig(1), blockTwig(statTwig(impl.NBreak, nil))),
		statTwig(impl.NEach, []int{2, 3, 4, 5}, table, blockTwig(statTwig(impl.NDo, nil, call(refTwig(impl.NVar, 5))), statTwig(impl.NNext, nil))),
		statTwig(impl.NTry, []int{6, 7}, blockTwig(statTwig(impl.NThrow, nil, exprTwig(impl.NAnd, null(), null()))), blockTwig(statTwig(impl.NThrow, nil, refTwig(impl.NVar, 7)))),
		statTwig(impl.NWhile, nil, exprTwig(impl.NOr, null(), null()), blockTwig(statTwig(impl.NIf, nil, null(), blockTwig(), statTwig(impl.NIf, nil, null(), blockTwig(), blockTwig())))),
		statTwig(impl.NDefer, nil, call(exprTwig(impl.NOne, exprTwig(impl.NRest)))),
		sets,
		statTwig(impl.NReturn, nil, refTwig(impl.NFn, 1), exprTwig(impl.NOne, call())),
	)
	second := blockTwig(statTwig(impl.NReturn, nil, refTwig(impl.NUp, 0), refTwig(impl.NVar, 0), refTwig(impl.NFn, 2)))
	third := blockTwig(twigOf(impl.Node{Kind: impl.NSet, Line: 100000, Num: 1}, refTwig(impl.NUp, 1), refTwig(impl.NUp, 0)))
	return impl.Unit{Fns: []impl.Fn{
		{Name: "main", Rest: true, Vars: []string{"a", "i", "k", "v", "w", "x", "e", "t"}, Nodes: text.laid()},
		{Line: 100000, Params: 1, Vars: []string{"p"}, Ups: []impl.Up{{Local: true}}, Nodes: second.laid()},
		{Name: strings.Repeat("n", 40), Ups: []impl.Up{{Local: true}, {}}, Nodes: third.laid()},
	}}
}

func checkUnitFault(t *testing.T, what string, u impl.Unit, want impl.Fault) {
	t.Helper()
	kept := copiedUnit(u)
	if got := impl.CheckUnit(u); got != want {
		t.Errorf("%s: %v, want %v", what, got, want)
	}
	if !sameUnit(u, kept) {
		t.Errorf("%s: it is changed", what)
	}
}

// P4: a valid unit with every Kind; each of its nodes with what its row does not name.
func TestUnitWhole(t *testing.T) {
	u := wholeUnit()
	checkUnitFault(t, "the whole", u, impl.Fault{})
	met := map[int]int{}
	for f, fn := range u.Fns {
		for n, node := range fn.Nodes {
			met[node.Kind]++
			at := &u.Fns[f].Nodes[n]
			change := func(what string, isFault bool, spoil func()) {
				spoil()
				want := impl.Fault{}
				if isFault {
					want = impl.Fault{Code: 3, Fn: f, Node: n}
				}
				checkUnitFault(t, fmt.Sprint(what, " of ", nodeWords[node.Kind], " at ", n), u, want)
				*at = node
			}
			isStat := node.Kind <= 14
			for _, line := range []int{math.MinInt, -1, 0, 1, 100000, 100001, math.MaxInt} {
				change(fmt.Sprint("Line ", line), isStat != (line >= 1 && line <= 100000) || !isStat && line != 0, func() { at.Line = line })
			}
			for _, kind := range []int{math.MinInt, -1, 0, 15, 19, 39, math.MaxInt} {
				change(fmt.Sprint("Kind ", kind), true, func() { at.Kind = kind })
			}
			isFlt := node.Kind == impl.NFlt
			change("a Flt 0", false, func() { at.Flt = 0 })
			change("a Flt -0", false, func() { at.Flt = minusZero })
			change("a Flt", !isFlt, func() { at.Flt = least })
			change("an infinite Flt", !isFlt, func() { at.Flt = math.Inf(1) })
			change("a NaN", true, func() { at.Flt = math.NaN() })
			isStr := node.Kind == impl.NStr
			change("a Str", !isStr, func() { at.Str = "s" })
			change("a Str of 4000", !isStr, func() { at.Str = strings.Repeat("s", 4000) })
			change("a Str of 4001", true, func() { at.Str = strings.Repeat("s", 4001) })
			if row := unitRows[node.Kind]; row.ops == [2]int{} {
				change("an Op", true, func() { at.Op = 1 })
				change("an Op below 0", true, func() { at.Op = -1 })
			} else {
				change("the least Op", false, func() { at.Op = max(row.ops[0], node.Op) })
				change("the most Op", false, func() { at.Op = row.ops[1] })
				change("an Op below", true, func() { at.Op = row.ops[0] - 1 })
				change("an Op above", true, func() { at.Op = row.ops[1] + 1 })
			}
			if unitRows[node.Kind].num == [2]int64{} {
				change("a Num", true, func() { at.Num = 1 })
				change("a Num below 0", true, func() { at.Num = -1 })
			}
			if refs := unitRows[node.Kind].refs; refs[1] < math.MaxInt {
				change("too many Refs", true, func() { at.Refs = make([]int, refs[1]+1) })
			}
			if refs := unitRows[node.Kind].refs; refs[0] > 0 {
				change("too few Refs", true, func() { at.Refs = make([]int, refs[0]-1) })
			}
		}
	}
	if len(met) != len(unitRows) {
		t.Error("only", len(met), "Kinds")
	}
}

// P4: the Num of NBuiltin, NInt and NSet at both ends and beyond; the least and the most Kids of each Kind; kids at n, behind it, below 0.
func TestUnitNumbersOfKids(t *testing.T) {
	for num, code := range map[int64]int{leastInt: 3, -1: 3, 0: 0, 14: 0, 15: 3, mostInt: 3} {
		u := aroundTwig(twigOf(impl.Node{Kind: impl.NBuiltin, Num: num}))
		checkUnitFault(t, fmt.Sprint("builtin ", num), u, impl.Fault{Code: code, Fn: min(code, 1), Node: code / 3})
	}
	for num, code := range map[int64]int{leastInt: 3, -1: 3, 0: 3, 1: 0, 2: 0, 3: 3, 4: 3, mostInt: 3} {
		set := twigOf(impl.Node{Kind: impl.NSet, Line: 1, Num: num}, refTwig(impl.NUp, 0), refTwig(impl.NUp, 0), refTwig(impl.NUp, 0))
		u := aroundTwig(set)
		want := impl.Fault{Code: code}
		if code > 0 {
			want.Fn, want.Node = 1, slices.IndexFunc(u.Fns[1].Nodes, func(n impl.Node) bool { return n.Kind == impl.NSet })
		}
		checkUnitFault(t, fmt.Sprint("targets ", num), u, want)
	}
	// Of each Kind the numbers of Kids that its row allows, of those near to an end.
	some := []int{0, 1, 2, 3, 4, 5, 199, 200, 201}
	allowed := map[int][]int{
		impl.NBlock: {0, 1, 2, 3, 4, 5, 199, 200}, impl.NLet: {0, 1, 2, 3, 4, 5, 199, 200}, impl.NReturn: {0, 1, 2, 3, 4, 5, 199, 200}, impl.NSet: {2, 3, 4, 5, 199, 200},
		impl.NDo: {1}, impl.NIf: {2, 3}, impl.NWhile: {2}, impl.NFor: {4}, impl.NEach: {2}, impl.NTry: {2}, impl.NThrow: {1}, impl.NDefer: {1},
		impl.NAnd: {2}, impl.NOr: {2}, impl.NUnary: {1}, impl.NBinary: {2}, impl.NIndex: {2}, impl.NCall: {1, 2, 3, 4, 5, 199, 200}, impl.NTable: {0, 2, 4, 200}, impl.NOne: {1},
	}
	for kind := range unitRows {
		if kind == impl.NVar || kind == impl.NFn {
			continue // alone they are not valid around here, whatever their Kids
		}
		for _, count := range some {
			u := aroundTwig(withKids(kind, count))
			place := slices.IndexFunc(u.Fns[1].Nodes, func(n impl.Node) bool { return n.Kind == kind && len(n.Kids) == count })
			want := impl.Fault{Code: 3, Fn: 1, Node: place}
			if slices.Contains(allowed[kind], count) || count == 0 && allowed[kind] == nil {
				want = impl.Fault{}
			}
			checkUnitFault(t, fmt.Sprint(nodeWords[kind], " with ", count, " kids"), u, want)
		}
	}
	u := wholeUnit()
	for f, fn := range u.Fns {
		for n, node := range fn.Nodes {
			for i, kid := range node.Kids {
				for _, other := range []int{n, n + 1, len(fn.Nodes), -1, math.MaxInt, math.MinInt} {
					node.Kids[i] = other
					checkUnitFault(t, fmt.Sprint("kid ", other, " of ", n), u, impl.Fault{Code: 3, Fn: f, Node: n})
				}
				node.Kids[i] = kid
			}
		}
	}
}

// withKids: a twig of a Kind with so many kids, of Kinds that may stand in their places as far as these go.
func withKids(kind, count int) *plainTwig {
	out := nodeAlone(kind)
	for len(out.kids) > count {
		out.kids = out.kids[1:]
	}
	for len(out.kids) < count {
		more := nodeAlone(impl.NNil)
		if kind == impl.NBlock || kind == impl.NIf || kind == impl.NTry {
			more = nodeAlone(impl.NBlock)
		}
		out.kids = append(out.kids, more)
	}
	return out
}

// P4: each Kind at each place of each Kind: which may stand there, written out by place.
func TestUnitPlaces(t *testing.T) {
	var statements, expressions []int
	for kind := range unitRows {
		if kind <= 14 {
			statements = append(statements, kind)
		} else {
			expressions = append(expressions, kind)
		}
	}
	block, open := []int{impl.NBlock}, []int{impl.NCall, impl.NRest}
	targets := []int{impl.NVar, impl.NUp, impl.NIndex}
	places := map[int][][]int{
		impl.NBlock: {statements}, impl.NLet: {expressions}, impl.NSet: {targets, expressions}, impl.NDo: {{impl.NCall}}, impl.NDefer: {{impl.NCall}},
		impl.NIf: {expressions, block, {impl.NBlock, impl.NIf}}, impl.NWhile: {expressions, block}, impl.NFor: {expressions, expressions, expressions, block},
		impl.NEach: {expressions, block}, impl.NReturn: {expressions}, impl.NTry: {block, block}, impl.NThrow: {expressions}, impl.NAnd: {expressions, expressions},
		impl.NOr: {expressions, expressions}, impl.NUnary: {expressions}, impl.NBinary: {expressions, expressions}, impl.NIndex: {expressions, expressions},
		impl.NCall: {expressions, expressions}, impl.NTable: {expressions, expressions}, impl.NOne: {open},
	}
	for kind, rows := range places {
		for place, may := range rows {
			for other := range unitRows {
				twig := withKids(kind, len(rows))
				twig.kids[place] = nodeAlone(other)
				nodes := blockTwig(twig).laid()
				if kind > 14 {
					nodes = blockTwig(statTwig(impl.NThrow, nil, twig)).laid()
				}
				at := slices.IndexFunc(nodes, func(n impl.Node) bool {
					return n.Kind == kind && len(n.Kids) == len(rows) && nodes[n.Kids[place]].Kind == other
				})
				got := impl.CheckUnit(impl.Unit{Fns: []impl.Fn{{Nodes: nodes}}})
				if isFault := got == (impl.Fault{Code: 3, Node: at}); isFault == slices.Contains(may, other) || !isFault && got.Code == 3 {
					t.Errorf("%s as kid %d of %s: %v", nodeWords[other], place, nodeWords[kind], got)
				}
			}
		}
	}
}

// P4: tables: the Op, an odd number of Kids, what the last pair of one with Op 1 has to be.
func TestUnitTablesWrittenOut(t *testing.T) {
	null, number, call, rest := nodeAlone(impl.NNil), nodeAlone(impl.NInt), nodeAlone(impl.NCall), nodeAlone(impl.NRest)
	one := nodeAlone(impl.NOne)
	for i, c := range []struct {
		op   int
		kids []*plainTwig
		ok   bool
	}{
		{0, nil, true}, {0, []*plainTwig{null}, false}, {0, []*plainTwig{null, null}, true}, {0, []*plainTwig{number, rest, null}, false}, {0, []*plainTwig{null, rest}, true},
		{1, nil, false}, {1, []*plainTwig{number}, false}, {1, []*plainTwig{rest}, false}, {1, []*plainTwig{number, rest}, true}, {1, []*plainTwig{number, call}, true},
		{1, []*plainTwig{null, rest}, false}, {1, []*plainTwig{call, call}, false}, {1, []*plainTwig{number, null}, false}, {1, []*plainTwig{number, one}, false}, {1, []*plainTwig{number, number}, false},
		{1, []*plainTwig{number, rest, null, null}, false}, {1, []*plainTwig{null, null, number, call}, true}, {1, []*plainTwig{null, number, rest}, false}, {1, []*plainTwig{null, null, null, number, rest}, false},
		{2, nil, false}, {2, []*plainTwig{number, rest}, false}, {-1, nil, false}, {-1, []*plainTwig{number, rest}, false},
	} {
		u := aroundTwig(twigOf(impl.Node{Kind: impl.NTable, Op: c.op}, c.kids...))
		want := impl.Fault{}
		if !c.ok {
			want = impl.Fault{Code: 3, Fn: 1, Node: slices.IndexFunc(u.Fns[1].Nodes, func(n impl.Node) bool { return n.Kind == impl.NTable })}
		}
		checkUnitFault(t, fmt.Sprint("table ", i), u, want)
	}
}
