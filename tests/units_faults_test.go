package tests

import (
	"cmp"
	"fmt"
	"slices"
	"strings"
	"testing"

	"loop.example/heddle/impl"
)

// fnOfTwig: a fn with variables a, b, c, d whose body is a twig.
func fnOfTwig(body *plainTwig) impl.Fn {
	return impl.Fn{Vars: []string{"a", "b", "c", "d"}, Nodes: body.laid()}
}

func makingTwig(fns ...int) *plainTwig {
	out := statTwig(impl.NReturn, nil)
	for _, fn := range fns {
		out.kids = append(out.kids, refTwig(impl.NFn, fn))
	}
	return out
}

// P4: code 1: no fns, 300 and 301, 3000 nodes and 3001 over several fns; it comes ahead of all others.
func TestUnitSizes(t *testing.T) {
	checkUnitFault(t, "no fns", impl.Unit{}, impl.Fault{Code: 1})
	checkUnitFault(t, "an empty list of fns", impl.Unit{Fns: []impl.Fn{}}, impl.Fault{Code: 1})
	for count, code := range map[int]int{299: 0, 300: 0, 301: 1} {
		var stats []*plainTwig
		for g := 1; g < count; g += 100 {
			stats = append(stats, makingTwig(countTo(min(count, g+100))[g:]...))
		}
		u := impl.Unit{Fns: []impl.Fn{fnOfTwig(blockTwig(stats...))}}
		for range count - 1 {
			u.Fns = append(u.Fns, fnOfTwig(blockTwig()))
		}
		checkUnitFault(t, fmt.Sprint(count, " fns"), u, impl.Fault{Code: code})
	}
	for _, extra := range []int{-1, 0, 1} {
		u := impl.Unit{Fns: []impl.Fn{fnOfTwig(blockTwig(makingTwig(1, 2)))}}
		for f := range 2 {
			nodes := (3000-len(u.Fns[0].Nodes))/2 + f*extra
			var stats []*plainTwig
			for left := nodes - 1; left > 0; left -= 100 {
				stats = append(stats, statTwig(impl.NReturn, nil, slices.Repeat([]*plainTwig{nodeAlone(impl.NNil)}, min(left, 100)-1)...))
			}
			u.Fns = append(u.Fns, fnOfTwig(blockTwig(stats...)))
		}
		total := 0
		for _, fn := range u.Fns {
			total += len(fn.Nodes)
		}
		if total != 3000-len(u.Fns[0].Nodes)%2+extra {
			t.Fatal(total, "nodes")
		}
		u.Fns[1].Nodes, u.Fns[2].Nodes = u.Fns[2].Nodes, u.Fns[1].Nodes
		checkUnitFault(t, fmt.Sprint(total, " nodes"), u, impl.Fault{Code: max(0, total-3000)})
	}
}

// P4: code 2: each of its conditions alone, at both ends and beyond, in the first fn and in another.
func TestUnitHeadsWrittenOut(t *testing.T) {
	long := strings.Repeat("n", 40)
	for f := range 3 {
		for _, c := range []struct {
			what string
			ok   bool
			set  func(fn *impl.Fn)
		}{
			{"no nodes", false, func(fn *impl.Fn) { fn.Nodes = nil }},
			{"empty nodes", false, func(fn *impl.Fn) { fn.Nodes = []impl.Node{} }},
			{"200 Vars", true, func(fn *impl.Fn) { fn.Vars = slices.Repeat([]string{"v"}, 200) }},
			{"201 Vars", false, func(fn *impl.Fn) { fn.Vars = slices.Repeat([]string{"v"}, 201) }},
			{"an Up", f > 0, func(fn *impl.Fn) { fn.Ups = slices.Repeat([]impl.Up{{Local: true}}, 1) }},
			{"200 Ups", f > 0, func(fn *impl.Fn) { fn.Ups = slices.Repeat([]impl.Up{{Local: true}}, 200) }},
			{"201 Ups", false, func(fn *impl.Fn) { fn.Ups = slices.Repeat([]impl.Up{{Local: true}}, 201) }},
			{"Params -1", false, func(fn *impl.Fn) { fn.Params = -1 }},
			{"Params 1", f > 0, func(fn *impl.Fn) { fn.Params = 1 }},
			{"all Params", f > 0, func(fn *impl.Fn) { fn.Params = len(fn.Vars) }},
			{"Params beyond", false, func(fn *impl.Fn) { fn.Params = len(fn.Vars) + 1 }},
			{"Rest", true, func(fn *impl.Fn) { fn.Rest = true }},
			{"Line -1", false, func(fn *impl.Fn) { fn.Line = -1 }},
			{"Line 0", true, func(fn *impl.Fn) { fn.Line = 0 }},
			{"Line 100000", true, func(fn *impl.Fn) { fn.Line = 100000 }},
			{"Line 100001", false, func(fn *impl.Fn) { fn.Line = 100001 }},
			{"no Name", true, func(fn *impl.Fn) { fn.Name = "" }},
			{"a Name that is none", true, func(fn *impl.Fn) { fn.Name = "\xff while" }},
			{"a Name of 40", true, func(fn *impl.Fn) { fn.Name = long }},
			{"a Name of 41", false, func(fn *impl.Fn) { fn.Name = long + "n" }},
			{"a variable without a name", false, func(fn *impl.Fn) { fn.Vars = append(fn.Vars, "") }},
			{"a variable of 1", true, func(fn *impl.Fn) { fn.Vars = append(fn.Vars, "\x00") }},
			{"a variable of 40", true, func(fn *impl.Fn) { fn.Vars = append(fn.Vars, long) }},
			{"a variable of 41", false, func(fn *impl.Fn) { fn.Vars = append(fn.Vars, long+"n") }},
		} {
			u := impl.Unit{Fns: []impl.Fn{
				fnOfTwig(blockTwig(statTwig(impl.NLet, []int{3}), blockTwig(makingTwig(1)))),
				fnOfTwig(blockTwig(statTwig(impl.NLet, []int{0}), makingTwig(2))),
				fnOfTwig(blockTwig()),
			}}
			// So that Ups of the first and only variable are in scope, whichever fn has them, and Params are no second declaration.
			u.Fns[0].Nodes[0].Refs[0] = 0
			if f == 1 && (strings.HasPrefix(c.what, "Params") || c.what == "all Params") {
				u.Fns[1].Nodes = blockTwig(makingTwig(2)).laid()
			}
			c.set(&u.Fns[f])
			want := impl.Fault{}
			if !c.ok {
				want = impl.Fault{Code: 2, Fn: f}
			}
			checkUnitFault(t, fmt.Sprint(c.what, " of fn ", f), u, want)
		}
	}
}

// P4: code 4: a node that is nobody's kid, that is one twice, of one node and of two; a last node that is no NBlock.
func TestUnitStrays(t *testing.T) {
	ret := impl.Node{Kind: impl.NReturn, Line: 1}
	block := func(kids ...int) impl.Node { return impl.Node{Kind: impl.NBlock, Line: 1, Kids: kids} }
	for i, c := range []struct {
		nodes []impl.Node
		node  int // -1 when there is no fault
	}{
		{[]impl.Node{ret, block(0)}, -1},
		{[]impl.Node{block()}, -1},
		{[]impl.Node{ret, block()}, 0},
		{[]impl.Node{ret, ret, ret, block(2, 0)}, 1},
		{[]impl.Node{ret, block(0, 0)}, 0},
		{[]impl.Node{ret, ret, block(0, 1, 0)}, 0},
		{[]impl.Node{ret, block(0), block(0, 1)}, 0},
		{[]impl.Node{ret, block(0), block(0)}, 0},
		{[]impl.Node{ret, block(0), block()}, 1},
		{[]impl.Node{ret, block(), ret, block(2)}, 0},
		{[]impl.Node{ret}, 0},
		{[]impl.Node{{Kind: impl.NNil}}, 0},
		{[]impl.Node{block(), {Kind: impl.NWhile, Line: 1}}, -2},
		{[]impl.Node{{Kind: impl.NNil}, {Kind: impl.NThrow, Line: 1, Kids: []int{0}}}, 1},
		{[]impl.Node{ret, {Kind: impl.NNil}, {Kind: impl.NThrow, Line: 1, Kids: []int{1}}}, 0},
	} {
		for f := range 2 {
			u := impl.Unit{Fns: []impl.Fn{fnOfTwig(blockTwig(makingTwig(1))), {Nodes: c.nodes}}}
			if f == 0 {
				u.Fns = []impl.Fn{{Nodes: c.nodes}}
			}
			want := impl.Fault{Code: 4, Fn: f, Node: c.node}
			switch c.node {
			case -1:
				want = impl.Fault{}
			case -2:
				want = impl.Fault{Code: 3, Fn: f, Node: len(c.nodes) - 1}
			}
			checkUnitFault(t, fmt.Sprint("nodes ", i), u, want)
		}
	}
}

// P4: code 5: depths 100 and 101, in fn 0 and in another, of a statement and of an expression; of several nodes too deep the least number.
func TestUnitDepths(t *testing.T) {
	for depth, node := range map[int]int{99: -1, 100: -1, 101: 0, 103: 0} {
		blocks, nots := blockTwig(), nodeAlone(impl.NNil)
		for range depth {
			blocks = blockTwig(blocks)
		}
		for range depth - 2 {
			nots = twigOf(impl.Node{Kind: impl.NUnary, Op: 20}, nots)
		}
		for _, body := range []*plainTwig{blocks, blockTwig(statTwig(impl.NThrow, nil, nots))} {
			for f := range 2 {
				u := impl.Unit{Fns: []impl.Fn{fnOfTwig(blockTwig(makingTwig(1))), fnOfTwig(body)}}
				if f == 0 {
					u.Fns = u.Fns[1:]
				}
				want := impl.Fault{}
				if node >= 0 {
					want = impl.Fault{Code: 5, Fn: f}
				}
				checkUnitFault(t, fmt.Sprint("depth ", depth), u, want)
			}
		}
	}
	// Two statements at depth 101 behind one at depth 1: the first of them by number.
	deep := blockTwig(statTwig(impl.NReturn, nil), statTwig(impl.NReturn, nil))
	for range 99 {
		deep = blockTwig(deep)
	}
	u := impl.Unit{Fns: []impl.Fn{fnOfTwig(blockTwig(statTwig(impl.NReturn, nil), deep))}}
	checkUnitFault(t, "two too deep", u, impl.Fault{Code: 5, Node: 1})
}

// P4: code 6: variables, places and fns that there are not; variables declared again; NVars that are not in scope.
func TestUnitRefsWrittenOut(t *testing.T) {
	let := func(refs ...int) *plainTwig { return statTwig(impl.NLet, refs) }
	use := func() *plainTwig { return statTwig(impl.NThrow, nil, refTwig(impl.NVar, 1)) }
	name := func() *plainTwig { return refTwig(impl.NVar, 1) }
	null := func() *plainTwig { return nodeAlone(impl.NNil) }
	throw := func(kid *plainTwig) *plainTwig { return statTwig(impl.NThrow, nil, kid) }
	loop := func(from, to, step *plainTwig, body ...*plainTwig) *plainTwig {
		return statTwig(impl.NFor, []int{1}, from, to, step, blockTwig(body...))
	}
	each := func(over *plainTwig, body ...*plainTwig) *plainTwig {
		return statTwig(impl.NEach, []int{0, 2, 3, 1}, over, blockTwig(body...))
	}
	try := func(first, second []*plainTwig) *plainTwig {
		return statTwig(impl.NTry, []int{0, 1}, blockTwig(first...), blockTwig(second...))
	}
	uses := []*plainTwig{use()}
	for _, c := range []struct {
		what string
		node int // -1 when there is no fault
		body *plainTwig
	}{
		{"variable 3", -1, blockTwig(let(3))}, {"variable 4", 0, blockTwig(let(4))}, {"variable -1", 0, blockTwig(let(-1))},
		{"variable 4 behind others", 1, blockTwig(let(3), let(2, 4))}, {"variable -1 in a NVar", 0, blockTwig(throw(refTwig(impl.NVar, -1)))},
		{"variable 4 in a NVar", 0, blockTwig(throw(refTwig(impl.NVar, 4)))}, {"variable 4 of a NFor", 4, blockTwig(statTwig(impl.NFor, []int{4}, null(), null(), null(), blockTwig()))},
		{"variable -1 of a NEach", 2, blockTwig(statTwig(impl.NEach, []int{0, -1}, null(), blockTwig()))}, {"variable 4 of a NTry", 2, blockTwig(statTwig(impl.NTry, []int{0, 4}, blockTwig(), blockTwig()))},
		{"place 0", -1, blockTwig(throw(refTwig(impl.NUp, 0)))}, {"place 1", -1, blockTwig(throw(refTwig(impl.NUp, 1)))},
		{"place 2", 0, blockTwig(throw(refTwig(impl.NUp, 2)))}, {"place -1", 0, blockTwig(throw(refTwig(impl.NUp, -1)))},
		{"fn 3", 0, blockTwig(throw(refTwig(impl.NFn, 3)))}, {"fn -1", 0, blockTwig(throw(refTwig(impl.NFn, -1)))},
		{"twice in one NLet", 0, blockTwig(let(1, 1))}, {"twice in one NEach", 2, blockTwig(statTwig(impl.NEach, []int{0, 2, 0}, null(), blockTwig()))},
		{"twice in one NTry", 2, blockTwig(statTwig(impl.NTry, []int{1, 1}, blockTwig(), blockTwig()))},
		{"by two NLets", 1, blockTwig(let(1), let(0, 1))}, {"by two NLets of two blocks", 2, blockTwig(blockTwig(let(1)), blockTwig(let(1)))},
		{"by a NFor and a NLet in it", 5, blockTwig(loop(null(), null(), null(), let(1)))}, {"by a NTry behind a NLet", 3, blockTwig(let(1), try(nil, nil))},
		{"ahead of its NLet", 0, blockTwig(use(), let(1))}, {"behind its NLet", -1, blockTwig(let(1), use())}, {"in its own NLet", 0, blockTwig(statTwig(impl.NLet, []int{1}, name()))},
		{"in another NLet of one list", 1, blockTwig(statTwig(impl.NLet, []int{0, 1}, null(), name()))}, {"behind its NBlock", 2, blockTwig(blockTwig(let(1)), use())},
		{"in an inner NBlock", -1, blockTwig(let(1), blockTwig(blockTwig(use())))}, {"in an inner NBlock ahead", 0, blockTwig(blockTwig(use()), let(1))},
		{"declared in one part of a NIf", 3, blockTwig(statTwig(impl.NIf, nil, null(), blockTwig(let(1)), blockTwig(use())))},
		{"in the NIf behind", -1, blockTwig(let(1), statTwig(impl.NIf, nil, name(), blockTwig(use()), statTwig(impl.NIf, nil, name(), blockTwig(use()))))},
		{"in a NFor's from", 0, blockTwig(loop(name(), null(), null()))}, {"in its to", 1, blockTwig(loop(null(), name(), null()))}, {"in its step", 2, blockTwig(loop(null(), null(), name()))},
		{"in its NBlock", -1, blockTwig(loop(null(), null(), null(), use()))}, {"behind a NFor", 5, blockTwig(loop(null(), null(), null()), use())},
		{"in a NEach's expression", 0, blockTwig(each(name()))}, {"in a NEach's NBlock", -1, blockTwig(each(null(), use()))}, {"behind a NEach", 3, blockTwig(each(null()), use())},
		{"in a NTry's first", 0, blockTwig(try(uses, nil))}, {"in a NTry's second", -1, blockTwig(try(nil, uses))}, {"behind a NTry", 3, blockTwig(try(nil, nil), use())},
		{"in a NWhile behind", -1, blockTwig(let(1), statTwig(impl.NWhile, nil, name(), blockTwig(use())))},
	} {
		u := impl.Unit{Fns: []impl.Fn{fnOfTwig(blockTwig(let(0), makingTwig(1))), fnOfTwig(c.body), fnOfTwig(blockTwig())}}
		u.Fns[1].Ups = []impl.Up{{Local: true}, {Local: true}}
		u.Fns[0].Nodes = blockTwig(let(0), makingTwig(1, 2)).laid()
		want := impl.Fault{}
		if c.node >= 0 {
			want = impl.Fault{Code: 6, Fn: 1, Node: c.node}
		}
		checkUnitFault(t, c.what, u, want)
	}
}

// P4: code 6: "second" is by the nodes' numbers, whatever stands first in the text; parameters count as declared.
func TestUnitDeclaredAgain(t *testing.T) {
	let := func(refs ...int) impl.Node { return impl.Node{Kind: impl.NLet, Line: 1, Refs: refs} }
	block := func(kids ...int) impl.Node { return impl.Node{Kind: impl.NBlock, Line: 1, Kids: kids} }
	for _, c := range []struct {
		what   string
		params int
		node   int // -1 when there is no fault
		nodes  []impl.Node
	}{
		{"in the order of the text", 0, 1, []impl.Node{let(1), let(1), block(0, 1)}},
		{"in the other order", 0, 1, []impl.Node{let(1), let(1), block(1, 0)}},
		{"an inner one with a lower number", 0, 2, []impl.Node{let(1), block(0), let(1), block(2, 1)}},
		{"an inner one with a higher number", 0, 1, []impl.Node{let(1), let(1), block(1), block(0, 2)}},
		{"the last parameter", 2, 0, []impl.Node{let(1), block(0)}},
		{"behind the last parameter", 1, -1, []impl.Node{let(1), block(0)}},
		{"parameter and another", 1, 1, []impl.Node{let(2), let(3, 0), block(0, 1)}},
		{"a parameter in a NVar", 2, -1, []impl.Node{{Kind: impl.NVar, Refs: []int{1}}, {Kind: impl.NThrow, Line: 1, Kids: []int{0}}, block(1)}},
		{"behind the parameters in a NVar", 1, 0, []impl.Node{{Kind: impl.NVar, Refs: []int{1}}, {Kind: impl.NThrow, Line: 1, Kids: []int{0}}, block(1)}},
		{"in the text behind, by number ahead", 0, -1, []impl.Node{{Kind: impl.NVar, Refs: []int{1}}, {Kind: impl.NThrow, Line: 1, Kids: []int{0}}, let(1), block(2, 1)}},
		{"in the text ahead, by number behind", 0, 1, []impl.Node{let(1), {Kind: impl.NVar, Refs: []int{1}}, {Kind: impl.NThrow, Line: 1, Kids: []int{1}}, block(2, 0)}},
	} {
		u := impl.Unit{Fns: []impl.Fn{fnOfTwig(blockTwig(makingTwig(1))), {Params: c.params, Vars: []string{"a", "b", "c", "d"}, Nodes: c.nodes}}}
		want := impl.Fault{}
		if c.node >= 0 {
			want = impl.Fault{Code: 6, Fn: 1, Node: c.node}
		}
		checkUnitFault(t, c.what, u, want)
	}
}

// P4: a NLet of all variables that a fn can have; more Refs than that are no fault of its row, but of the variables.
func TestUnitLetOfAll(t *testing.T) {
	for count, code := range map[int]int{199: 0, 200: 0, 201: 6, 4000: 6} {
		fn := fnOfTwig(blockTwig(statTwig(impl.NLet, countTo(count))))
		fn.Vars = slices.Repeat([]string{"v"}, 200)
		checkUnitFault(t, fmt.Sprint(count, " Refs"), impl.Unit{Fns: []impl.Fn{fn}}, impl.Fault{Code: code})
	}
}

// P4: code 7: NBreak and NNext in no loop, in each kind of loop, behind it, in what stands inside one, in a fn inside one.
func TestUnitLeavingLoops(t *testing.T) {
	null := func() *plainTwig { return nodeAlone(impl.NNil) }
	for _, kind := range []int{impl.NBreak, impl.NNext} {
		leave := statTwig(kind, nil)
		for _, c := range []struct {
			what   string
			isGood bool
			body   *plainTwig
		}{
			{"in the text", false, blockTwig(leave)}, {"in a block", false, blockTwig(blockTwig(leave))},
			{"in a while", true, blockTwig(statTwig(impl.NWhile, nil, null(), blockTwig(leave)))},
			{"in a for", true, blockTwig(statTwig(impl.NFor, []int{0}, null(), null(), null(), blockTwig(leave)))},
			{"in an each", true, blockTwig(statTwig(impl.NEach, []int{0}, null(), blockTwig(leave)))},
			{"in an if", false, blockTwig(statTwig(impl.NIf, nil, null(), blockTwig(leave), blockTwig()))},
			{"in a try", false, blockTwig(statTwig(impl.NTry, []int{0, 1}, blockTwig(leave), blockTwig()))},
			{"in an if in a loop", true, blockTwig(statTwig(impl.NWhile, nil, null(), blockTwig(statTwig(impl.NIf, nil, null(), blockTwig(), blockTwig(leave)))))},
			{"in a try in a loop", true, blockTwig(statTwig(impl.NEach, []int{2}, null(), blockTwig(statTwig(impl.NTry, []int{0, 1}, blockTwig(leave), blockTwig()))))},
			{"in a try's second in a loop", true, blockTwig(statTwig(impl.NFor, []int{2}, null(), null(), null(), blockTwig(statTwig(impl.NTry, []int{0, 1}, blockTwig(), blockTwig(leave)))))},
			{"behind a loop", false, blockTwig(statTwig(impl.NWhile, nil, null(), blockTwig()), leave)},
			{"ahead of a loop", false, blockTwig(leave, statTwig(impl.NWhile, nil, null(), blockTwig()))},
			{"in a loop in an if", true, blockTwig(statTwig(impl.NIf, nil, null(), blockTwig(statTwig(impl.NWhile, nil, null(), blockTwig(leave)))))},
		} {
			for f := range 2 {
				fns := []impl.Fn{fnOfTwig(blockTwig(statTwig(impl.NWhile, nil, null(), blockTwig(makingTwig(1))))), fnOfTwig(c.body)}
				want := impl.Fault{}
				if !c.isGood {
					want = impl.Fault{Code: 7, Fn: f, Node: slices.IndexFunc(fns[1].Nodes, func(n impl.Node) bool { return n.Kind == kind })}
				}
				checkUnitFault(t, c.what, impl.Unit{Fns: fns[1-f:]}, want)
			}
		}
	}
}

// P4: code 8: NRest with and without Rest; NFns for the fn itself, one ahead, one that is made already; Ups at both ends and beyond.
func TestUnitMakingWrittenOut(t *testing.T) {
	for f := range 2 {
		for _, rest := range []bool{false, true} {
			u := impl.Unit{Fns: []impl.Fn{fnOfTwig(blockTwig(makingTwig(1))), fnOfTwig(blockTwig())}}
			u.Fns[f].Nodes = blockTwig(statTwig(impl.NReturn, nil, append([]*plainTwig{nodeAlone(impl.NRest)}, makingTwig(countTo(2)[1+f:]...).kids...)...)).laid()
			u.Fns[f].Rest = rest
			u.Fns[1-f].Rest = !rest
			want := impl.Fault{Code: 8, Fn: f}
			if rest {
				want = impl.Fault{}
			}
			checkUnitFault(t, "a rest", u, want)
		}
	}
	for _, c := range []struct {
		makes [3][]int
		want  impl.Fault
	}{
		{[3][]int{{1, 2}}, impl.Fault{}}, {[3][]int{{2, 1}}, impl.Fault{}}, {[3][]int{{1}, {2}}, impl.Fault{}},
		{[3][]int{{0, 1, 2}}, impl.Fault{Code: 8}}, {[3][]int{{1, 0, 2}}, impl.Fault{Code: 8, Node: 1}},
		{[3][]int{{1, 2}, {1}}, impl.Fault{Code: 8, Fn: 1}}, {[3][]int{{1}, {2, 0}}, impl.Fault{Code: 8, Fn: 1, Node: 1}},
		{[3][]int{{2}, nil, {1}}, impl.Fault{Code: 8, Fn: 2}}, {[3][]int{{1, 2}, nil, {2}}, impl.Fault{Code: 8, Fn: 2}},
		{[3][]int{{1, 2, 1}}, impl.Fault{Code: 8, Node: 2}}, {[3][]int{{1, 1, 2}}, impl.Fault{Code: 8, Node: 1}},
		{[3][]int{{1, 2}, {2}}, impl.Fault{Code: 8, Fn: 1}}, {[3][]int{{1}, {2, 2}}, impl.Fault{Code: 8, Fn: 1, Node: 1}},
		{[3][]int{nil, {2}}, impl.Fault{Code: 9, Fn: 1}}, {[3][]int{{1}}, impl.Fault{Code: 9, Fn: 2}}, {[3][]int{{2}}, impl.Fault{Code: 9, Fn: 1}}, {[3][]int{}, impl.Fault{Code: 9, Fn: 1}},
	} {
		u := impl.Unit{}
		for _, fns := range c.makes {
			u.Fns = append(u.Fns, fnOfTwig(blockTwig(makingTwig(fns...))))
		}
		checkUnitFault(t, fmt.Sprint(c.makes), u, c.want)
	}
	let := statTwig(impl.NLet, []int{1})
	loop := statTwig(impl.NFor, []int{1}, nodeAlone(impl.NNil), nodeAlone(impl.NNil), nodeAlone(impl.NNil), blockTwig(makingTwig(2)))
	for i, c := range []struct {
		up     impl.Up
		isGood bool
		body   *plainTwig
	}{
		{impl.Up{Index: 0}, true, blockTwig(makingTwig(2))}, {impl.Up{Index: 1}, true, blockTwig(makingTwig(2))},
		{impl.Up{Index: 2}, false, blockTwig(makingTwig(2))}, {impl.Up{Index: -1}, false, blockTwig(makingTwig(2))},
		{impl.Up{Local: true, Index: 0}, true, blockTwig(makingTwig(2))}, {impl.Up{Local: true, Index: -1}, false, blockTwig(makingTwig(2))},
		{impl.Up{Local: true, Index: 3}, false, blockTwig(makingTwig(2))}, {impl.Up{Local: true, Index: 4}, false, blockTwig(makingTwig(2))},
		{impl.Up{Local: true, Index: 1}, false, blockTwig(makingTwig(2))}, {impl.Up{Local: true, Index: 1}, true, blockTwig(let, makingTwig(2))},
		{impl.Up{Local: true, Index: 1}, false, blockTwig(makingTwig(2), let)}, {impl.Up{Local: true, Index: 1}, false, blockTwig(blockTwig(let), makingTwig(2))},
		{impl.Up{Local: true, Index: 1}, false, blockTwig(statTwig(impl.NLet, []int{1}, refTwig(impl.NFn, 2)))}, {impl.Up{Local: true, Index: 1}, true, blockTwig(let, blockTwig(makingTwig(2)))},
		{impl.Up{Local: true, Index: 1}, true, blockTwig(loop)}, {impl.Up{Local: true, Index: 1}, false, blockTwig(statTwig(impl.NEach, []int{1}, refTwig(impl.NFn, 2), blockTwig()))},
		{impl.Up{Local: true, Index: 1}, false, blockTwig(statTwig(impl.NTry, []int{0, 1}, blockTwig(makingTwig(2)), blockTwig()))},
	} {
		u := impl.Unit{Fns: []impl.Fn{fnOfTwig(blockTwig(statTwig(impl.NLet, []int{0}), makingTwig(1))), fnOfTwig(c.body), fnOfTwig(blockTwig())}}
		u.Fns[1].Ups, u.Fns[2].Ups = []impl.Up{{Local: true}, {Local: true}}, []impl.Up{{Index: 1}, c.up}
		if u.Fns[1].Params = 1; slices.ContainsFunc(u.Fns[1].Nodes, func(n impl.Node) bool { return n.Kind == impl.NTry }) {
			u.Fns[1].Params = 0
		}
		want := impl.Fault{}
		if !c.isGood {
			want = impl.Fault{Code: 8, Fn: 1, Node: slices.IndexFunc(u.Fns[1].Nodes, func(n impl.Node) bool { return n.Kind == impl.NFn })}
		}
		checkUnitFault(t, fmt.Sprint("closing ", i), u, want)
	}
}

// spoilable: a valid unit of four fns, each with two of everything that spoilers spoil; of a fn's nodes none has to come or go for that.
func spoilable() impl.Unit {
	u := impl.Unit{}
	for f := range 4 {
		var stats []*plainTwig
		for v := range 2 {
			stats = append(stats, statTwig(impl.NReturn, nil), statTwig(impl.NReturn, nil), // for codes 4 and 5
				statTwig(impl.NLet, []int{v}), statTwig(impl.NThrow, nil, refTwig(impl.NVar, v)), statTwig(impl.NThrow, nil, exprTwig(impl.NTrue)),
				statTwig(impl.NWhile, nil, exprTwig(impl.NFalse), blockTwig(statTwig(impl.NBreak, nil))))
		}
		made := [][]int{{1, 3}, {2}, nil, nil}[f]
		deep := blockTwig()
		for range 99 {
			deep = blockTwig(deep)
		}
		u.Fns = append(u.Fns, fnOfTwig(blockTwig(append(stats, makingTwig(made...), deep)...)))
	}
	return u
}

// spoiler makes one fault of a spoilable unit.
type spoiler struct {
	want  impl.Fault
	spoil func(u impl.Unit)
}

func someSpoilers(u impl.Unit) []spoiler {
	var out []spoiler
	add := func(code, f, n int, spoil func(fn *impl.Fn)) {
		out = append(out, spoiler{impl.Fault{Code: code, Fn: f, Node: n}, func(u impl.Unit) { spoil(&u.Fns[f]) }})
	}
	for f, fn := range u.Fns {
		last := len(fn.Nodes) - 1
		leave := func(fn *impl.Fn, n int) {
			body := &fn.Nodes[last]
			body.Kids = slices.DeleteFunc(body.Kids, func(kid int) bool { return kid == n })
		}
		add(2, f, 0, func(fn *impl.Fn) { fn.Line = -1 })
		returns := 0
		for n, node := range fn.Nodes {
			switch node.Kind {
			case impl.NReturn:
				returns++
				if returns%2 == 1 && len(node.Kids) == 0 && returns < 5 {
					add(4, f, n, func(fn *impl.Fn) { leave(fn, n) })
				}
				if returns%2 == 0 {
					add(5, f, n, func(fn *impl.Fn) {
						leave(fn, n)
						deepest := last - 100
						fn.Nodes[deepest].Kids = append(fn.Nodes[deepest].Kids, n)
					})
				}
			case impl.NLet:
				add(3, f, n, func(fn *impl.Fn) { fn.Nodes[n].Flt = 1 })
			case impl.NVar:
				add(6, f, n, func(fn *impl.Fn) { fn.Nodes[n].Refs[0] = 3 })
			case impl.NBreak:
				add(7, f, n, func(fn *impl.Fn) { fn.Nodes[n+2].Kind = impl.NIf })
			case impl.NTrue:
				add(8, f, n, func(fn *impl.Fn) { fn.Nodes[n].Kind = impl.NRest })
			case impl.NFn:
				out = append(out, spoiler{impl.Fault{Code: 9, Fn: node.Refs[0]}, func(u impl.Unit) { u.Fns[f].Nodes[n] = impl.Node{Kind: impl.NNil} }})
			}
		}
	}
	return out
}

func firstFault(a, b impl.Fault) int {
	return cmp.Or(cmp.Compare(a.Code, b.Code), cmp.Compare(a.Fn, b.Fn), cmp.Compare(a.Node, b.Node))
}

// P4: of two faults the one of the first code, then of the first fn, then of the first node.
func TestUnitTwoFaults(t *testing.T) {
	ground := spoilable()
	checkUnitFault(t, "the ground", ground, impl.Fault{})
	spoilers := someSpoilers(ground)
	counts := map[int]int{}
	for _, s := range spoilers {
		counts[s.want.Code]++
	}
	for code, count := range map[int]int{2: 4, 3: 8, 4: 8, 5: 8, 6: 8, 7: 8, 8: 8, 9: 3} {
		if counts[code] != count {
			t.Fatal(counts)
		}
	}
	for i, a := range spoilers {
		for _, b := range spoilers[:i+1] {
			u := copiedUnit(ground)
			a.spoil(u)
			if b.want != a.want {
				b.spoil(u)
			}
			want := slices.MinFunc([]impl.Fault{a.want, b.want}, firstFault)
			checkUnitFault(t, fmt.Sprint(a.want, " and ", b.want), u, want)
		}
		u := copiedUnit(ground)
		a.spoil(u)
		u.Fns = append(u.Fns, slices.Repeat([]impl.Fn{fnOfTwig(blockTwig())}, 297)...)
		checkUnitFault(t, fmt.Sprint(a.want, " and 301 fns"), u, impl.Fault{Code: 1})
	}
}
