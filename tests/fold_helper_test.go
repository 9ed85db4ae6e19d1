package tests

import (
	"math"
	"math/rand"
	"slices"
	"testing"

	"loop.example/heddle/impl"
)

func plainTwigOf(nodes []impl.Node, n int) *plainTwig {
	t := twigOf(nodes[n])
	for _, kid := range nodes[n].Kids {
		t.kids = append(t.kids, plainTwigOf(nodes, kid))
	}
	return t
}

func (t *plainTwig) makesFn() bool {
	return t.node.Kind == impl.NFn || slices.ContainsFunc(t.kids, (*plainTwig).makesFn)
}

// value: what a literal gives.
func (t *plainTwig) value() (impl.Value, bool) {
	switch node := t.node; node.Kind {
	case impl.NNil:
		return impl.Value{}, true
	case impl.NTrue:
		return vBool(true), true
	case impl.NFalse:
		return vBool(false), true
	case impl.NInt:
		return vInt(node.Num), true
	case impl.NFlt:
		return vFlt(node.Flt), true
	case impl.NStr:
		return vStr(node.Str), true
	case impl.NBuiltin:
		return vBuiltin(node.Num), true
	}
	return impl.Value{}, false
}

// emptied: a block without its statements, if it makes no fn.
func (t *plainTwig) emptied() *plainTwig {
	if t.makesFn() {
		return t
	}
	return twigOf(t.node)
}

// folded: a new tree, by the rules as they stand in the document.
func (t *plainTwig) folded() *plainTwig {
	out := twigOf(t.node)
	for _, kid := range t.kids {
		out.kids = append(out.kids, kid.folded())
	}
	switch t.node.Kind {
	case impl.NUnary, impl.NBinary:
		return out.operated()
	case impl.NBlock:
		return out.cut()
	case impl.NAnd, impl.NOr, impl.NIf, impl.NWhile:
		if v, ok := out.kids[0].value(); ok {
			return out.decided(plainTruth(v))
		}
	}
	return out
}

func (t *plainTwig) operated() *plainTwig {
	var values []impl.Value
	for _, kid := range t.kids {
		if v, ok := kid.value(); ok {
			values = append(values, v)
		}
	}
	if len(values) < len(t.kids) || t.node.Op == impl.OpJoin {
		return t
	}
	var gives impl.Valued
	if t.node.Kind == impl.NUnary {
		gives = plainUnary(t.node.Op, values[0])
	} else {
		gives = plainBinary(t.node.Op, values[0], values[1])
	}
	if gives.Code != 0 || math.IsNaN(gives.Value.Flt) {
		return t
	}
	return twigOf(plainLiteral(gives.Value))
}

// cut: a block without what stands behind the first statement that ends it, if that makes no fn.
func (t *plainTwig) cut() *plainTwig {
	for i, kid := range t.kids {
		switch kid.node.Kind {
		case impl.NReturn, impl.NBreak, impl.NNext, impl.NThrow:
			if !slices.ContainsFunc(t.kids[i+1:], (*plainTwig).makesFn) {
				return twigOf(t.node, t.kids[:i+1]...)
			}
			return t
		}
	}
	return t
}

// decided: for what has a literal as its first kid, of this Truth.
func (t *plainTwig) decided(truth bool) *plainTwig {
	first, second := t.kids[0], t.kids[1]
	switch {
	case t.node.Kind == impl.NAnd && truth, t.node.Kind == impl.NOr && !truth:
		if second.node.Kind == impl.NCall || second.node.Kind == impl.NRest {
			return twigOf(plainNode(impl.NOne), second)
		}
		return second
	case t.node.Kind == impl.NAnd, t.node.Kind == impl.NOr:
		if second.makesFn() {
			return t
		}
		return first
	case !truth:
		return twigOf(t.node, append([]*plainTwig{first, second.emptied()}, t.kids[2:]...)...)
	case t.node.Kind == impl.NIf && len(t.kids) == 3 && !t.kids[2].makesFn():
		return twigOf(t.node, first, second)
	}
	return t
}

func plainFold(u impl.Unit) impl.Unit {
	if plainUnitFault(u) != (impl.Fault{}) {
		return impl.Unit{}
	}
	out := copiedUnit(u)
	for f, fn := range out.Fns {
		out.Fns[f].Nodes = plainTwigOf(fn.Nodes, len(fn.Nodes)-1).folded().laid()
	}
	return out
}

// checkFoldPlain: Fold answers what the rules give, a valid unit, in which there is nothing more to fold.
func checkFoldPlain(t *testing.T, u impl.Unit) impl.Unit {
	t.Helper()
	kept := copiedUnit(u)
	got, want := impl.Fold(u), plainFold(u)
	if !sameUnit(got, want) {
		t.Fatalf("%.1500s\nis folded to\n%.1500s\nwant\n%.1500s", unitTold(kept), unitTold(got), unitTold(want))
	}
	if !sameUnit(u, kept) {
		t.Fatalf("%s is changed", unitTold(kept))
	}
	if len(got.Fns) > 0 {
		if fault := plainUnitFault(got); fault != (impl.Fault{}) {
			t.Fatalf("%s is not valid: %v", unitTold(got), fault)
		}
		if again := impl.Fold(got); !sameUnit(again, got) {
			t.Fatalf("%s is folded again to %s", unitTold(got), unitTold(again))
		}
	}
	return got
}

// boundText: the unit of a text, which has to have one.
func boundText(t *testing.T, text string) impl.Unit {
	t.Helper()
	b := impl.Bind(textTree(t, text))
	if b.Code != 0 {
		t.Fatalf("%q: code %d at %d", text, b.Code, b.Part)
	}
	return b.Unit
}

// checkFold: what the text's body becomes.
func checkFold(t *testing.T, text, want string) {
	t.Helper()
	u := boundText(t, text)
	folded := checkFoldPlain(t, u)
	nodes := folded.Fns[0].Nodes
	if got := nodeTold(nodes, len(nodes)-1); got != want || !inWalkOrder(nodes) {
		t.Errorf("%q: %s, want %s", text, got, want)
	}
}

// checkFoldExpr: what an expression becomes.
func checkFoldExpr(t *testing.T, expr, want string) {
	t.Helper()
	checkFold(t, "let a\nreturn "+expr, "block:1(let:1[0] return:2("+want+"))")
}

// literalRich: a tree by chance with many of the expressions in conditions and operations made literals.
func literalRich(seed int64) impl.Tree {
	r := rand.New(rand.NewSource(seed))
	x := boundTree(seed, 0)
	parents := plainParents(x.Parts)
	some := literalValues()
	for n := range x.Parts {
		p := &x.Parts[n]
		if parents[n] < 0 || len(p.Kids) > 0 || p.Kind < impl.ENil || p.Kind > impl.ERest || r.Intn(3) == 0 {
			continue
		}
		switch x.Parts[parents[n]].Kind {
		case impl.EAnd, impl.EOr, impl.EUnary, impl.EBinary, impl.SIf, impl.SWhile:
			literal := literalPart(some[r.Intn(len(some))])
			if literal.Kind == impl.EStr && len(literal.Text) > 5 || literal.Kind == impl.EName {
				literal = impl.Part{Kind: []int{impl.ENil, impl.EFalse, impl.ETrue}[r.Intn(3)]}
			}
			*p = literal
		}
	}
	return x
}

// shuffled: the same unit with its nodes in another order, each still behind its kids.
func shuffled(r *rand.Rand, u impl.Unit) impl.Unit {
	out := copiedUnit(u)
	for f, fn := range out.Fns {
		var order []int
		left := countTo(len(fn.Nodes))
		for len(left) > 0 {
			i := r.Intn(len(left))
			ready := !slices.ContainsFunc(fn.Nodes[left[i]].Kids, func(kid int) bool { return slices.Contains(left, kid) })
			if ready {
				order = append(order, left[i])
				left = slices.Delete(left, i, i+1)
			}
		}
		nodes := make([]impl.Node, len(fn.Nodes))
		for place, n := range order {
			nodes[place] = fn.Nodes[n]
			for i, kid := range nodes[place].Kids {
				nodes[place].Kids[i] = slices.Index(order, kid)
			}
		}
		out.Fns[f].Nodes = nodes
	}
	return out
}
