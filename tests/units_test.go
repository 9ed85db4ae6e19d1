package tests

import (
	"math"
	"math/rand"
	"slices"
	"strings"
	"testing"

	"loop.example/heddle/impl"
)

// nodeAlone: a twig of a Kind with the least that its row asks for; its variable is 0, its fn 1.
func nodeAlone(kind int) *plainTwig {
	node := impl.Node{Kind: kind, Op: unitRows[kind].ops[0]}
	if isStatNode(kind) {
		node.Line = 1
	}
	for i := range unitRows[kind].refs[0] {
		node.Refs = append(node.Refs, i)
	}
	out := twigOf(node)
	for _, kid := range leastNodeKids(kind) {
		out.kids = append(out.kids, nodeAlone(kid))
	}
	switch kind {
	case impl.NSet:
		out.node.Num = 1
	case impl.NFn:
		out.node.Refs[0] = 1
	}
	return out
}

func leastNodeKids(kind int) []int {
	switch kind {
	case impl.NSet:
		return []int{impl.NUp, impl.NNil}
	case impl.NDo, impl.NDefer, impl.NOne:
		return []int{impl.NCall}
	case impl.NIf, impl.NWhile, impl.NEach:
		return []int{impl.NNil, impl.NBlock}
	case impl.NFor:
		return []int{impl.NNil, impl.NNil, impl.NNil, impl.NBlock}
	case impl.NTry:
		return []int{impl.NBlock, impl.NBlock}
	case impl.NThrow, impl.NUnary, impl.NCall:
		return []int{impl.NNil}
	case impl.NAnd, impl.NOr, impl.NBinary, impl.NIndex:
		return []int{impl.NNil, impl.NNil}
	}
	return nil
}

// aroundTwig: a unit of three fns, in the second of which the twig stands, in a loop; it has a variable more than it declares,
// something to close over, and takes further arguments. The third fn is made by a NFn, unless the twig makes it.
func aroundTwig(t *plainTwig) impl.Unit {
	stat := t
	if !isStatNode(t.node.Kind) {
		stat = twigOf(impl.Node{Kind: impl.NThrow, Line: 1}, t)
	}
	block := func(stats ...*plainTwig) *plainTwig { return twigOf(impl.Node{Kind: impl.NBlock, Line: 1}, stats...) }
	making := func(fn int) *plainTwig {
		return twigOf(impl.Node{Kind: impl.NReturn, Line: 1}, twigOf(impl.Node{Kind: impl.NFn, Refs: []int{fn}}))
	}
	loop := twigOf(impl.Node{Kind: impl.NWhile, Line: 1}, twigOf(plainNode(impl.NNil)), block(stat))
	first := block(twigOf(impl.Node{Kind: impl.NLet, Line: 1, Refs: []int{0}}), making(1))
	return impl.Unit{Fns: []impl.Fn{
		{Vars: []string{"a"}, Nodes: first.laid()},
		{Rest: true, Vars: []string{"v", "w", "x", "y", "z"}, Ups: []impl.Up{{Local: true}}, Nodes: block(loop, making(2)).laid()},
		{Nodes: block().laid()},
	}}
}

// checkUnitPlain: CheckUnit and Fold hold a unit for valid, or not, as the words do.
func checkUnitPlain(t *testing.T, what string, u impl.Unit) impl.Fault {
	t.Helper()
	kept := copiedUnit(u)
	want := plainUnitFault(u)
	if got := impl.CheckUnit(u); got != want {
		t.Errorf("%s: %v, want %v (%s)", what, got, want, shortly(u))
	}
	if valid := len(impl.Fold(u).Fns) > 0; valid != (want.Code == 0) {
		t.Errorf("%s: folded %t, but the fault is %v", what, valid, want)
	}
	if !sameUnit(u, kept) {
		t.Errorf("%s: it is changed", what)
	}
	return want
}

// P4: a node of each Kind as its row has it, and with each of its fields otherwise.
func TestUnitFields(t *testing.T) {
	valid := 0
	for kind := -1; kind <= 40; kind++ {
		what := nodeWords[kind] + " " + string(rune('0'+kind/10)) + string(rune('0'+kind%10))
		fault := checkUnitPlain(t, what, aroundTwig(nodeAlone(kind)))
		if _, known := unitRows[kind]; known && kind != impl.NFn && kind != impl.NVar && fault.Code != 0 {
			t.Errorf("%s: %v", what, fault)
		}
		change := func(field string, spoil func(n *impl.Node)) {
			twig := nodeAlone(kind)
			spoil(&twig.node)
			if checkUnitPlain(t, what+" with "+field, aroundTwig(twig)).Code == 0 {
				valid++
			}
		}
		for _, n := range []int{-1, 0, 1, 2, 3, 4, 5, 14, 15, 18, 19, 20, 22, 23, 99999, 100000, 100001, math.MaxInt, math.MinInt} {
			change("a Line", func(node *impl.Node) { node.Line = n })
			change("an Op", func(node *impl.Node) { node.Op = n })
			change("a Num", func(node *impl.Node) { node.Num = int64(n) })
			change("a Ref", func(node *impl.Node) { node.Refs = []int{n} })
			change("another Ref", func(node *impl.Node) { node.Refs = append(node.Refs, n) })
		}
		for count := range 7 {
			change("Refs", func(node *impl.Node) { node.Refs = countTo(count) })
		}
		for _, f := range []float64{minusZero, 1, least, math.NaN(), math.Inf(1)} {
			change("a Flt", func(node *impl.Node) { node.Flt = f })
		}
		for _, size := range []int{1, 4000, 4001} {
			change("a Str", func(node *impl.Node) { node.Str = strings.Repeat("\xff", size) })
		}
	}
	if valid < 300 {
		t.Error("only", valid, "are valid")
	}
}

// P4: a node of each Kind with another kid in each place, one kid more, one less.
func TestUnitKids(t *testing.T) {
	valid := map[int]int{}
	for kind := range unitRows {
		for place := range 6 {
			for other := 1; other <= 38; other++ {
				if _, known := unitRows[other]; !known {
					continue
				}
				twig := nodeAlone(kind)
				if place < len(twig.kids) {
					twig.kids[place] = nodeAlone(other)
				} else {
					twig.kids = append(twig.kids, slices.Repeat([]*plainTwig{nodeAlone(other)}, place+1-len(twig.kids))...)
				}
				for _, op := range []int{twig.node.Op, 1} {
					for _, num := range []int64{twig.node.Num, 2} {
						twig.node.Op, twig.node.Num = op, num
						if checkUnitPlain(t, nodeWords[kind]+" of "+nodeWords[other], aroundTwig(twig)).Code == 0 {
							valid[kind]++
						}
					}
				}
			}
		}
		twig := nodeAlone(kind)
		if len(twig.kids) > 0 {
			twig.kids = twig.kids[1:]
			checkUnitPlain(t, nodeWords[kind]+" without its first", aroundTwig(twig))
		}
	}
	if valid[impl.NIf] == 0 || valid[impl.NTable] == 0 || valid[impl.NSet] == 0 || valid[impl.NBlock] == 0 {
		t.Error(valid)
	}
}

// P4: tables with a key that is no NInt, a last value that gives just one, or an odd number of kids.
func TestUnitTables(t *testing.T) {
	kinds := []int{impl.NInt, impl.NStr, impl.NCall, impl.NRest, impl.NOne, impl.NNil}
	r := rand.New(rand.NewSource(62))
	for range 3000 {
		table := twigOf(impl.Node{Kind: impl.NTable, Op: r.Intn(2)})
		for range r.Intn(7) {
			table.kids = append(table.kids, nodeAlone(kinds[r.Intn(len(kinds))]))
		}
		checkUnitPlain(t, "a table", aroundTwig(table))
	}
	for _, kids := range []int{0, 1, 2, 199, 200, 201, 202} {
		for op := range 2 {
			table := twigOf(impl.Node{Kind: impl.NTable, Op: op}, slices.Repeat([]*plainTwig{nodeAlone(impl.NNil)}, kids)...)
			checkUnitPlain(t, "a table of nils", aroundTwig(table))
			if kids >= 2 {
				table.kids[kids-2], table.kids[kids-1] = nodeAlone(impl.NInt), nodeAlone(impl.NRest)
			}
			checkUnitPlain(t, "a table with a rest", aroundTwig(table))
		}
	}
}

// P4: the limits of fns: lines, names, variables, what is closed over.
func TestUnitHeads(t *testing.T) {
	long := strings.Repeat("n", 40)
	ups := func(count int) []impl.Up { return slices.Repeat([]impl.Up{{Local: true}}, count) }
	for what, change := range map[string]func(fn *impl.Fn){
		"line -1": func(fn *impl.Fn) { fn.Line = -1 }, "line 0": func(fn *impl.Fn) { fn.Line = 0 }, "line 100000": func(fn *impl.Fn) { fn.Line = 100000 },
		"line 100001": func(fn *impl.Fn) { fn.Line = 100001 }, "a name of 40": func(fn *impl.Fn) { fn.Name = long }, "a name of 41": func(fn *impl.Fn) { fn.Name = long + "n" },
		"a name with blanks": func(fn *impl.Fn) { fn.Name = "if \x00" }, "no variable's name": func(fn *impl.Fn) { fn.Vars = append(fn.Vars, "") },
		"a variable's name of 40": func(fn *impl.Fn) { fn.Vars = append(fn.Vars, long) }, "a variable's name of 41": func(fn *impl.Fn) { fn.Vars = append(fn.Vars, long+"n") },
		"200 variables": func(fn *impl.Fn) { fn.Vars = someNames(200) }, "201 variables": func(fn *impl.Fn) { fn.Vars = someNames(201) },
		"200 ups": func(fn *impl.Fn) { fn.Ups = ups(200) }, "201 ups": func(fn *impl.Fn) { fn.Ups = ups(201) }, "no nodes": func(fn *impl.Fn) { fn.Nodes = nil },
		"all params": func(fn *impl.Fn) { fn.Params = len(fn.Vars) }, "a param too many": func(fn *impl.Fn) { fn.Params = len(fn.Vars) + 1 },
		"params below 0": func(fn *impl.Fn) { fn.Params = -1 }, "a param": func(fn *impl.Fn) { fn.Params = 1 }, "an up": func(fn *impl.Fn) { fn.Ups = ups(1) },
		"an up that is none": func(fn *impl.Fn) { fn.Ups = []impl.Up{{Index: -1}} }, "an up beyond": func(fn *impl.Fn) { fn.Ups = []impl.Up{{Index: 1}} },
		"a local up that is none": func(fn *impl.Fn) { fn.Ups = []impl.Up{{Local: true, Index: -1}} }, "a local up beyond": func(fn *impl.Fn) { fn.Ups = []impl.Up{{Local: true, Index: 5}} },
		"an up of an up": func(fn *impl.Fn) { fn.Ups = []impl.Up{{Index: 0}} },
	} {
		for f := range 3 {
			u := aroundTwig(nodeAlone(impl.NReturn))
			change(&u.Fns[f])
			checkUnitPlain(t, what, u)
		}
	}
	for count, code := range map[int]int{300: 0, 301: 1} {
		u := aroundTwig(twigOf(impl.Node{Kind: impl.NReturn, Line: 1}, slices.Repeat([]*plainTwig{twigOf(plainNode(impl.NNil))}, 199)...))
		body := &u.Fns[0].Nodes
		*body = nil
		var stats []*plainTwig
		for fn := 1; fn < count; fn += 150 {
			made := twigOf(impl.Node{Kind: impl.NReturn, Line: 1})
			for g := fn; g < min(count, fn+150); g++ {
				made.kids = append(made.kids, twigOf(impl.Node{Kind: impl.NFn, Refs: []int{g}}))
			}
			stats = append(stats, made)
		}
		*body = twigOf(impl.Node{Kind: impl.NBlock, Line: 1}, stats...).laid()
		u.Fns = append(u.Fns[:1], slices.Repeat(u.Fns[2:], count-1)...)
		if fault := checkUnitPlain(t, "fns", u); fault.Code != code {
			t.Errorf("%d fns: %v", count, fault)
		}
	}
}

// P4: where each declared variable is in scope, and where it is not.
func TestUnitScopes(t *testing.T) {
	block := func(stats ...*plainTwig) *plainTwig { return twigOf(impl.Node{Kind: impl.NBlock, Line: 1}, stats...) }
	uses := func() *plainTwig {
		return twigOf(impl.Node{Kind: impl.NThrow, Line: 1}, twigOf(impl.Node{Kind: impl.NVar, Refs: []int{1}}))
	}
	name := func() *plainTwig { return twigOf(impl.Node{Kind: impl.NVar, Refs: []int{1}}) }
	null := func() *plainTwig { return twigOf(plainNode(impl.NNil)) }
	stat := func(kind int, refs []int, kids ...*plainTwig) *plainTwig {
		return twigOf(impl.Node{Kind: kind, Line: 1, Refs: refs}, kids...)
	}
	one, two := []int{1}, []int{0, 1}
	for what, c := range map[string]struct {
		body *plainTwig
		code int
	}{
		"behind a let":                 {block(stat(impl.NLet, one), uses()), 0},
		"ahead of a let":               {block(uses(), stat(impl.NLet, one)), 6},
		"in a let":                     {block(stat(impl.NLet, one, name())), 6},
		"in a block behind a let":      {block(stat(impl.NLet, one), block(block(uses()))), 0},
		"behind the block of a let":    {block(block(stat(impl.NLet, one)), uses()), 6},
		"in a for's block":             {block(stat(impl.NFor, one, null(), null(), null(), block(uses()))), 0},
		"in a for's first":             {block(stat(impl.NFor, one, name(), null(), null(), block())), 6},
		"in a for's third":             {block(stat(impl.NFor, one, null(), null(), name(), block())), 6},
		"behind a for":                 {block(stat(impl.NFor, one, null(), null(), null(), block()), uses()), 6},
		"in an each's block":           {block(stat(impl.NEach, two, null(), block(uses()))), 0},
		"in an each's expression":      {block(stat(impl.NEach, two, name(), block())), 6},
		"behind an each":               {block(stat(impl.NEach, two, null(), block()), uses()), 6},
		"in a try's second block":      {block(stat(impl.NTry, two, block(), block(uses()))), 0},
		"in a try's first block":       {block(stat(impl.NTry, two, block(uses()), block())), 6},
		"behind a try":                 {block(stat(impl.NTry, two, block(), block()), uses()), 6},
		"declared by none":             {block(uses()), 6},
		"declared twice in a row":      {block(stat(impl.NLet, []int{1, 1})), 6},
		"declared twice":               {block(stat(impl.NLet, one), block(stat(impl.NLet, one))), 6},
		"declared in two blocks":       {block(block(stat(impl.NLet, one)), block(stat(impl.NLet, one))), 6},
		"a variable that is not there": {block(stat(impl.NLet, []int{5})), 6},
		"a break in an if in a while":  {block(stat(impl.NWhile, nil, null(), block(stat(impl.NIf, nil, null(), block(stat(impl.NBreak, nil)))))), 0},
		"a next behind a while":        {block(stat(impl.NWhile, nil, null(), block()), stat(impl.NNext, nil)), 7},
		"a let behind a lets' block":   {block(stat(impl.NLet, one), stat(impl.NIf, nil, name(), block(uses()), block(uses())), uses()), 0},
	} {
		for params := range 3 {
			u := aroundTwig(nodeAlone(impl.NReturn))
			u.Fns[2].Vars = []string{"v", "w", "x", "y", "z"}
			u.Fns[2].Params = params
			u.Fns[2].Nodes = c.body.laid()
			if fault := checkUnitPlain(t, what, u); params == 0 && fault.Code != c.code {
				t.Errorf("%s: %v, want %d", what, fault, c.code)
			}
			checkUnitPlain(t, what, shuffled(rand.New(rand.NewSource(int64(params))), u))
		}
	}
	// Of a variable that is not there a use may stand ahead of what declares it.
	u := impl.Unit{Fns: []impl.Fn{{Vars: []string{"v"}, Nodes: []impl.Node{
		{Kind: impl.NVar, Refs: []int{7}}, {Kind: impl.NThrow, Line: 1, Kids: []int{0}}, {Kind: impl.NLet, Line: 1, Refs: []int{7}}, {Kind: impl.NBlock, Line: 1, Kids: []int{2, 1}},
	}}}}
	if fault := checkUnitPlain(t, "a variable that is not there", u); fault != (impl.Fault{Code: 6}) {
		t.Error(fault)
	}
}

// P4: a fn that is made twice, by one ahead of it, by none; what it closes over where it is made.
func TestUnitMaking(t *testing.T) {
	block := func(stats ...*plainTwig) *plainTwig { return twigOf(impl.Node{Kind: impl.NBlock, Line: 1}, stats...) }
	makes := func(fns ...int) *plainTwig {
		out := twigOf(impl.Node{Kind: impl.NReturn, Line: 1})
		for _, fn := range fns {
			out.kids = append(out.kids, twigOf(impl.Node{Kind: impl.NFn, Refs: []int{fn}}))
		}
		return out
	}
	for _, first := range [][]int{nil, {0}, {1}, {1, 2}, {2, 1}, {1, 1}, {2}, {3}, {-1}, {1, 2, 1}} {
		for _, second := range [][]int{nil, {0}, {1}, {2}, {2, 2}, {3}} {
			for _, third := range [][]int{nil, {1}, {2}} {
				u := impl.Unit{Fns: []impl.Fn{{Nodes: block(makes(first...)).laid()}, {Nodes: block(makes(second...)).laid()}, {Nodes: block(makes(third...)).laid()}}}
				checkUnitPlain(t, "made", u)
			}
		}
	}
	let := twigOf(impl.Node{Kind: impl.NLet, Line: 1, Refs: []int{0}})
	for _, body := range []*plainTwig{block(let, makes(1)), block(makes(1), let), block(block(let), makes(1)), block(let, block(makes(1)))} {
		for index := -1; index <= 2; index++ {
			for _, local := range []bool{false, true} {
				u := impl.Unit{Fns: []impl.Fn{{Vars: []string{"a", "b"}, Nodes: body.laid()}, {Ups: []impl.Up{{Local: local, Index: index}}, Nodes: block().laid()}}}
				checkUnitPlain(t, "closing", u)
			}
		}
	}
	for _, rest := range []bool{false, true} {
		u := aroundTwig(nodeAlone(impl.NRest))
		u.Fns[1].Rest = rest
		if fault := checkUnitPlain(t, "a rest", u); (fault.Code == 8) == rest {
			t.Error(rest, fault)
		}
	}
}

// P4: 3000 nodes and one more, depth 100 and one more, a kid twice, a kid of none, a body that is no NBlock.
func TestUnitTrees(t *testing.T) {
	block := func(stats ...*plainTwig) *plainTwig { return twigOf(impl.Node{Kind: impl.NBlock, Line: 1}, stats...) }
	for _, c := range []struct{ depth, code int }{{99, 0}, {100, 0}, {101, 5}, {102, 5}} {
		deep := block()
		for range c.depth {
			deep = block(deep)
		}
		u := impl.Unit{Fns: []impl.Fn{{Nodes: deep.laid()}}}
		if fault := checkUnitPlain(t, "deep", u); fault != (impl.Fault{Code: c.code}) {
			t.Errorf("depth %d: %v", c.depth, fault)
		}
	}
	for _, c := range []struct{ nodes, code int }{{2999, 0}, {3000, 0}, {3001, 1}} {
		var stats []*plainTwig
		for left := c.nodes - 1; left > 0; left -= 150 {
			stat := twigOf(impl.Node{Kind: impl.NReturn, Line: 1})
			for range min(left, 150) - 1 {
				stat.kids = append(stat.kids, twigOf(plainNode(impl.NNil)))
			}
			stats = append(stats, stat)
		}
		u := impl.Unit{Fns: []impl.Fn{{Nodes: block(stats...).laid()}}}
		if fault := checkUnitPlain(t, "wide", u); len(u.Fns[0].Nodes) != c.nodes || fault.Code != c.code {
			t.Errorf("%d nodes: %v", len(u.Fns[0].Nodes), fault)
		}
	}
	for _, nodes := range [][]impl.Node{
		{{Kind: impl.NReturn, Line: 1}},
		{{Kind: impl.NNil}},
		{{Kind: impl.NReturn, Line: 1}, {Kind: impl.NBlock, Line: 1, Kids: []int{0, 0}}},
		{{Kind: impl.NReturn, Line: 1}, {Kind: impl.NBlock, Line: 1}},
		{{Kind: impl.NReturn, Line: 1}, {Kind: impl.NReturn, Line: 1}, {Kind: impl.NBlock, Line: 1, Kids: []int{1}}},
		{{Kind: impl.NReturn, Line: 1}, {Kind: impl.NBlock, Line: 1, Kids: []int{0}}, {Kind: impl.NBlock, Line: 1, Kids: []int{1, 0}}},
		{{Kind: impl.NReturn, Line: 1}, {Kind: impl.NBlock, Line: 1, Kids: []int{0}}, {Kind: impl.NReturn, Line: 1}},
		{{Kind: impl.NBlock, Line: 1, Kids: []int{0}}},
		{{Kind: impl.NBlock, Line: 1, Kids: []int{1}}, {Kind: impl.NBlock, Line: 1, Kids: []int{0}}},
		{{Kind: impl.NBlock, Line: 1}, {Kind: impl.NBlock, Line: 1, Kids: []int{0}}},
	} {
		checkUnitPlain(t, "nodes", impl.Unit{Fns: []impl.Fn{{Nodes: nodes}}})
	}
	checkUnitPlain(t, "nothing", impl.Unit{})
}
