package tests

import (
	"cmp"
	"math/rand"
	"slices"
	"testing"

	"loop.example/heddle/impl"
)

// plainBinder knows of a sound tree what Bind asks for, each thing looked up anew: names by a look outwards, the order of fns by
// their first parts, that of variables by the moment at which each is declared, Ups by the list of all names.
type plainBinder struct {
	parts   []impl.Part
	parents []int
	values  plainWorker
	uses    map[int]impl.Use
	fns     []int // the text and the EFns, by number
}

func newPlainBinder(x impl.Tree) *plainBinder {
	b := &plainBinder{parts: x.Parts, parents: plainParents(x.Parts), uses: map[int]impl.Use{}}
	b.values = plainWorker{parts: b.parts, parents: b.parents, known: map[int]impl.Valued{}}
	for _, use := range plainUses(x) {
		b.uses[use.Part] = use
	}
	for n, p := range b.parts {
		if p.Kind == impl.EFn {
			b.fns = append(b.fns, n)
		}
	}
	slices.SortFunc(b.fns, func(m, n int) int { return cmp.Or(b.begin(m)-b.begin(n), n-m) })
	b.fns = append([]int{len(b.parts) - 1}, b.fns...)
	return b
}

// begin: the first of the parts below a part, or the part itself.
func (b *plainBinder) begin(n int) int {
	for len(b.parts[n].Kids) > 0 {
		n = b.parts[n].Kids[0]
	}
	return n
}

// fnOf: the EFn in which a part stands, or the text.
func (b *plainBinder) fnOf(n int) int {
	for n = b.parents[n]; n >= 0; n = b.parents[n] {
		if b.parts[n].Kind == impl.EFn {
			return n
		}
	}
	return len(b.parts) - 1
}

// homeOf: the fn whose variables a part declares.
func (b *plainBinder) homeOf(n int) int {
	if b.parts[n].Kind == impl.EFn {
		return n
	}
	return b.fnOf(n)
}

func (b *plainBinder) isTarget(n int) bool {
	parent := b.parts[b.parents[n]]
	return parent.Kind == impl.SSet && slices.Index(parent.Kids, n) < int(parent.Num)
}

func (b *plainBinder) inLoop(n int) bool {
	for kid := n; b.parents[kid] >= 0; kid = b.parents[kid] {
		parent := b.parts[b.parents[kid]]
		switch parent.Kind {
		case impl.EFn:
			return false
		case impl.SWhile, impl.SFor, impl.SEach:
			if parent.Kids[len(parent.Kids)-1] == kid {
				return true
			}
		}
	}
	return false
}

func (b *plainBinder) faultOf(n int) int {
	p := b.parts[n]
	use := b.uses[n].Kind
	switch {
	case p.Kind == impl.EName && use == impl.UNone:
		return 2
	case p.Kind == impl.EName && b.isTarget(n) && (use == impl.UConst || use == impl.UBuiltin):
		return 3
	case (p.Kind == impl.SBreak || p.Kind == impl.SNext) && !b.inLoop(n):
		return 4
	case p.Kind == impl.ERest && b.fnOf(n) != len(b.parts)-1 && b.parts[b.fnOf(n)].Op != 1:
		return 5
	case p.Kind == impl.SConst && b.values.value(n).Code != 0:
		return 6
	}
	return 0
}

func (b *plainBinder) fault() impl.Bound {
	for n := range b.parts {
		if code := b.faultOf(n); code != 0 {
			return impl.Bound{Code: code, Part: n}
		}
	}
	return impl.Bound{}
}

// moment: when a part declares its variables: twice the number of the part that comes next then, or the part itself.
func (b *plainBinder) moment(n int) int {
	p := b.parts[n]
	switch p.Kind {
	case impl.EFn:
		return -1
	case impl.SFn:
		return 2*b.begin(n) - 1
	case impl.SFor, impl.SEach, impl.STry:
		return 2*b.begin(p.Kids[len(p.Kids)-1]) - 1
	}
	return 2 * n
}

// decls: the variables of a fn in their order; a Place beyond the names is that of a second one that has none.
func (b *plainBinder) decls(fn int) []impl.Decl {
	var at []int
	for n, p := range b.parts {
		if len(p.Names) > 0 && p.Kind != impl.SConst && b.homeOf(n) == fn {
			at = append(at, n)
		}
	}
	slices.SortFunc(at, func(m, n int) int { return cmp.Or(b.moment(m)-b.moment(n), n-m) })
	var decls []impl.Decl
	for _, n := range at {
		count := len(b.parts[n].Names)
		if b.parts[n].Kind == impl.STry {
			count = 2
		}
		for place := range count {
			decls = append(decls, impl.Decl{Part: n, Place: place})
		}
	}
	return decls
}

func (b *plainBinder) number(d impl.Decl) int { return slices.Index(b.decls(b.homeOf(d.Part)), d) }

// upDecls: the variables of fns around that a fn, or one inside of it, uses.
func (b *plainBinder) upDecls(fn int) []impl.Decl {
	var found []impl.Decl
	for n, p := range b.parts {
		use := b.uses[n]
		if p.Kind != impl.EName || use.Kind != impl.UUp {
			continue
		}
		d := impl.Decl{Part: use.Decl, Place: use.Place}
		for f := b.fnOf(n); f != b.homeOf(use.Decl); f = b.fnOf(f) {
			if f == fn && !slices.Contains(found, d) {
				found = append(found, d)
			}
		}
	}
	return found
}

func (b *plainBinder) ups(fn int) []impl.Up {
	var ups []impl.Up
	for _, d := range b.upDecls(fn) {
		outer := b.fnOf(fn)
		if b.homeOf(d.Part) == outer {
			ups = append(ups, impl.Up{Local: true, Index: b.number(d)})
		} else {
			ups = append(ups, impl.Up{Index: slices.Index(b.upDecls(outer), d)})
		}
	}
	return ups
}

// plainTwig: a node with its kids.
type plainTwig struct {
	node impl.Node
	kids []*plainTwig
}

func twigOf(node impl.Node, kids ...*plainTwig) *plainTwig { return &plainTwig{node: node, kids: kids} }

func plainNode(kind int) impl.Node { return impl.Node{Kind: kind} }

// laid: the nodes in the order of the walk.
func (t *plainTwig) laid() []impl.Node {
	var nodes []impl.Node
	node := t.node
	node.Kids = nil
	// The numbers of a kid's nodes go up by what stands ahead of them.
	for _, kid := range t.kids {
		ahead := len(nodes)
		for _, below := range kid.laid() {
			below.Kids = slices.Clone(below.Kids)
			for i := range below.Kids {
				below.Kids[i] += ahead
			}
			nodes = append(nodes, below)
		}
		node.Kids = append(node.Kids, len(nodes)-1)
	}
	return append(nodes, node)
}

// sameWords: the parts that become a node of the same word, with their Line, Op and Num.
var sameWords = map[int]int{
	impl.SBlock: impl.NBlock, impl.SLet: impl.NLet, impl.SSet: impl.NSet, impl.SDo: impl.NDo, impl.SIf: impl.NIf, impl.SWhile: impl.NWhile,
	impl.SFor: impl.NFor, impl.SEach: impl.NEach, impl.SBreak: impl.NBreak, impl.SNext: impl.NNext, impl.SReturn: impl.NReturn,
	impl.STry: impl.NTry, impl.SThrow: impl.NThrow, impl.SDefer: impl.NDefer,
	impl.ENil: impl.NNil, impl.ETrue: impl.NTrue, impl.EFalse: impl.NFalse, impl.EInt: impl.NInt, impl.EFlt: impl.NFlt, impl.EStr: impl.NStr,
	impl.ERest: impl.NRest, impl.EAnd: impl.NAnd, impl.EOr: impl.NOr, impl.EUnary: impl.NUnary, impl.EBinary: impl.NBinary,
	impl.EIndex: impl.NIndex, impl.ECall: impl.NCall, impl.EOne: impl.NOne,
}

// refs: the numbers of what a part declares.
func (b *plainBinder) refs(n int) []int {
	var refs []int
	for i, d := range b.decls(b.homeOf(n)) {
		if d.Part == n {
			refs = append(refs, i)
		}
	}
	return refs
}

func (b *plainBinder) all(parts []int) []*plainTwig {
	var twigs []*plainTwig
	for _, n := range parts {
		twigs = append(twigs, b.twigs(n)...)
	}
	return twigs
}

// twigs: what a part becomes, by the rows of the table.
func (b *plainBinder) twigs(n int) []*plainTwig {
	p := b.parts[n]
	switch p.Kind {
	case impl.SConst:
		return nil
	case impl.SFn:
		name := twigOf(impl.Node{Kind: impl.NVar, Refs: b.refs(n)})
		return []*plainTwig{
			twigOf(impl.Node{Kind: impl.NLet, Line: p.Line, Refs: b.refs(n)}),
			twigOf(impl.Node{Kind: impl.NSet, Line: p.Line, Num: 1}, append([]*plainTwig{name}, b.twigs(p.Kids[0])...)...),
		}
	case impl.EFn:
		return []*plainTwig{twigOf(impl.Node{Kind: impl.NFn, Refs: []int{slices.Index(b.fns, n)}})}
	case impl.EField:
		return []*plainTwig{twigOf(plainNode(impl.NIndex), append(b.all(p.Kids), twigOf(impl.Node{Kind: impl.NStr, Str: p.Text}))...)}
	case impl.EName:
		return []*plainTwig{twigOf(b.nameNode(n))}
	case impl.ETable:
		return []*plainTwig{b.tableTwig(p)}
	}
	node := impl.Node{Kind: sameWords[p.Kind], Op: p.Op, Num: p.Num, Str: p.Text}
	if isStatement(p.Kind) {
		node.Line = p.Line
	}
	if p.Kind == impl.EFlt {
		node.Flt = p.Flt
	}
	if len(p.Names) > 0 {
		node.Refs = b.refs(n)
	}
	kids := b.all(p.Kids)
	if p.Kind == impl.SFor && len(kids) == 3 {
		kids = slices.Insert(kids, 2, twigOf(impl.Node{Kind: impl.NInt, Num: 1}))
	}
	return []*plainTwig{twigOf(node, kids...)}
}

func (b *plainBinder) tableTwig(p impl.Part) *plainTwig {
	table := twigOf(plainNode(impl.NTable))
	count := int64(0)
	for i, n := range p.Kids {
		entry := b.parts[n]
		values := b.all(entry.Kids)
		switch entry.Kind {
		case impl.NItem:
			count++
			values = append([]*plainTwig{twigOf(impl.Node{Kind: impl.NInt, Num: count})}, values...)
			if kind := b.parts[entry.Kids[0]].Kind; i == len(p.Kids)-1 && (kind == impl.ECall || kind == impl.ERest) {
				table.node.Op = 1
			}
		case impl.NNamed:
			values = append([]*plainTwig{twigOf(impl.Node{Kind: impl.NStr, Str: entry.Text})}, values...)
		}
		table.kids = append(table.kids, values...)
	}
	return table
}

func (b *plainBinder) nameNode(n int) impl.Node {
	use := b.uses[n]
	d := impl.Decl{Part: use.Decl, Place: use.Place}
	switch use.Kind {
	case impl.UVar:
		return impl.Node{Kind: impl.NVar, Refs: []int{b.number(d)}}
	case impl.UUp:
		return impl.Node{Kind: impl.NUp, Refs: []int{slices.Index(b.upDecls(b.fnOf(n)), d)}}
	case impl.UConst:
		return plainLiteral(b.values.value(use.Decl).Value)
	}
	return impl.Node{Kind: impl.NBuiltin, Num: int64(use.Place)}
}

func plainLiteral(v impl.Value) impl.Node {
	kinds := map[int]int{impl.KNil: impl.NNil, impl.KInt: impl.NInt, impl.KFlt: impl.NFlt, impl.KStr: impl.NStr, impl.KBuiltin: impl.NBuiltin}
	if v.Kind == impl.KBool {
		return plainNode(impl.NFalse - int(v.Num))
	}
	return impl.Node{Kind: kinds[v.Kind], Num: v.Num, Flt: v.Flt, Str: v.Str}
}

func (b *plainBinder) fn(n int) impl.Fn {
	p := b.parts[n]
	fn := impl.Fn{Name: "main", Rest: true}
	body := n
	if p.Kind == impl.EFn {
		fn = impl.Fn{Line: p.Line, Params: len(p.Names), Rest: p.Op == 1, Ups: b.ups(n)}
		if parent := b.parts[b.parents[n]]; parent.Kind == impl.SFn {
			fn.Name = parent.Names[0]
		}
		body = p.Kids[0]
	}
	for _, d := range b.decls(n) {
		name := "_"
		if names := b.parts[d.Part].Names; d.Place < len(names) {
			name = names[d.Place]
		}
		fn.Vars = append(fn.Vars, name)
	}
	fn.Nodes = b.twigs(body)[0].laid()
	return fn
}

func plainBind(x impl.Tree) impl.Bound {
	if plainTreeFault(x) != (impl.Wrong{}) {
		return impl.Bound{Code: 1}
	}
	b := newPlainBinder(x)
	if fault := b.fault(); fault.Code != 0 {
		return fault
	}
	var u impl.Unit
	for _, n := range b.fns {
		u.Fns = append(u.Fns, b.fn(n))
	}
	if plainUnitFault(u) != (impl.Fault{}) {
		return impl.Bound{Code: 7}
	}
	return impl.Bound{Unit: u}
}

func plainClosed(x impl.Tree) []impl.Decl {
	if code := plainBind(x).Code; code >= 1 && code <= 6 {
		return nil
	}
	var closed []impl.Decl
	for n, p := range x.Parts {
		for place := range p.Names {
			isUsed := func(use impl.Use) bool { return use.Kind == impl.UUp && use.Decl == n && use.Place == place }
			if slices.ContainsFunc(plainUses(x), isUsed) {
				closed = append(closed, impl.Decl{Part: n, Place: place})
			}
		}
	}
	return closed
}

func sameBound(a, b impl.Bound) bool {
	return a.Code == b.Code && a.Part == b.Part && sameUnit(a.Unit, b.Unit)
}

// checkBindPlain: Bind and Closed answer what the words give, read from the whole to its parts.
func checkBindPlain(t *testing.T, x impl.Tree) impl.Bound {
	t.Helper()
	kept := copiedTree(x)
	got, want := impl.Bind(x), plainBind(x)
	if !sameBound(got, want) {
		t.Fatalf("%s is bound with %d, %d, %s; want %d, %d, %s", shortly(x), got.Code, got.Part, unitTold(got.Unit), want.Code, want.Part, unitTold(want.Unit))
	}
	if got, want := impl.Closed(x), plainClosed(x); !slices.Equal(got, want) {
		t.Fatalf("%s closes over %v, want %v", shortly(x), got, want)
	}
	if !sameTree(x, kept) {
		t.Fatalf("%s is changed", shortly(kept))
	}
	return got
}

// checkBind: the unit of a text, told as by unitTold.
func checkBind(t *testing.T, text, want string) {
	t.Helper()
	x := textTree(t, text)
	got := impl.Bind(x)
	if told := unitTold(got.Unit); got.Code != 0 || got.Part != 0 || told != want {
		t.Errorf("%q: code %d at %d\n%s, want\n%s", text, got.Code, got.Part, told, want)
	}
	for _, fn := range got.Unit.Fns {
		if !inWalkOrder(fn.Nodes) {
			t.Errorf("%q: the nodes of %s do not stand in the order of the walk", text, fnTold(fn))
		}
	}
	checkBindPlain(t, x)
}

// checkBindFault: the code of a text, and of which part: where that stands in the text.
func checkBindFault(t *testing.T, text string, code int, part string) {
	t.Helper()
	x := textTree(t, text)
	got := impl.Bind(x)
	at := ""
	if got.Part >= 0 && got.Part < len(x.Parts) {
		at = text[x.Parts[got.Part].From:x.Parts[got.Part].To]
	}
	if got.Code != code || len(got.Unit.Fns) != 0 || at != part {
		t.Errorf("%q: code %d at part %d, %q, want %d at %q", text, got.Code, got.Part, at, code, part)
	}
	checkBindPlain(t, x)
}

// mended: a tree with few or none of the faults of names: each is mended but for one in so many, if there are any such.
func mended(r *rand.Rand, x impl.Tree, oneIn int) impl.Tree {
	x = copiedTree(x)
	spared := make([]bool, len(x.Parts))
	for n := range spared {
		spared[n] = oneIn > 0 && r.Intn(oneIn) == 0
	}
	for range 4 {
		b := newPlainBinder(x)
		for n := range x.Parts {
			p := &x.Parts[n]
			code := b.faultOf(n)
			switch {
			case spared[n]:
			case p.Kind == impl.SEach && len(p.Names) > 4:
				p.Names = p.Names[:4]
			case code == 2, code == 3:
				p.Text = []string{"a", "b", "c", "printer"}[r.Intn(4)]
			case code == 4:
				p.Kind = impl.SReturn
			case code == 5:
				x.Parts[b.fnOf(n)].Op = 1
			case code == 6:
				p.Kind = impl.SLet
			}
		}
	}
	return x
}

// ringed: a tree with a SLet of names at its head.
func ringed(x impl.Tree, names ...string) impl.Tree {
	out := impl.Tree{Parts: []impl.Part{{Kind: impl.SLet, Line: 1, Names: names}}}
	for _, p := range copiedTree(x).Parts {
		for i := range p.Kids {
			p.Kids[i]++
		}
		out.Parts = append(out.Parts, p)
	}
	text := &out.Parts[len(out.Parts)-1]
	text.Kids = append([]int{0}, text.Kids...)
	return out
}

// boundTree: a tree by chance of which most can be bound.
func boundTree(seed int64, oneIn int) impl.Tree {
	r := rand.New(rand.NewSource(seed))
	return mended(r, ringed(namesTree(seed), "a", "b", "c", "printer"), oneIn)
}
