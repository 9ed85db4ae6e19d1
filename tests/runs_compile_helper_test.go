package tests

import (
	"math"
	"slices"

	"loop.example/heddle/impl"
)

// plainCompiled: the code of a valid unit by chapter 13, with as many registers and instructions as it likes. What runs of units
// answer is held against what this code does on a plainMachine.
func plainCompiled(u impl.Unit) impl.Code {
	homes := make([][]int, len(u.Fns))
	var code impl.Code
	for f, fn := range u.Fns {
		k := plainCompilerOf(u, fn)
		k.whole()
		homes[f] = k.homes
		code.Protos = append(code.Protos, k.p)
	}
	for f, fn := range u.Fns {
		for _, n := range fn.Nodes {
			if n.Kind != impl.NFn {
				continue
			}
			made := &code.Protos[n.Refs[0]]
			for _, up := range u.Fns[n.Refs[0]].Ups {
				if up.Local {
					up.Index = homes[f][up.Index]
				}
				made.Ups = append(made.Ups, up)
			}
		}
	}
	return code
}

func plainCaptured(u impl.Unit, fn impl.Fn) []bool {
	captured := make([]bool, len(fn.Vars))
	for _, n := range fn.Nodes {
		if n.Kind == impl.NFn {
			for _, up := range u.Fns[n.Refs[0]].Ups {
				if up.Local {
					captured[up.Index] = true
				}
			}
		}
	}
	return captured
}

// plainLevel: what a NBreak or NNext leaves on its way out.
type plainLevel struct {
	what   string // block, tried, caught, loop
	base   int
	defers bool
	breaks []int
	nexts  []int
}

type plainCompiler struct {
	u        impl.Unit
	fn       impl.Fn
	captured []bool
	homes    []int
	froms    []int
	tos      []int
	top      int
	levels   []*plainLevel
	p        impl.Proto
}

func plainCompilerOf(u impl.Unit, fn impl.Fn) *plainCompiler {
	k := &plainCompiler{u: u, fn: fn, captured: plainCaptured(u, fn), homes: make([]int, len(fn.Vars))}
	k.froms, k.tos = make([]int, len(fn.Vars)), make([]int, len(fn.Vars))
	for v := range k.homes {
		k.homes[v] = -1
	}
	return k
}

func took(r int) int { return -1 - r }

func (k *plainCompiler) emit(op int, fields ...int) int {
	fields = append(fields, 0, 0, 0, 0)
	k.p.Ins = append(k.p.Ins, impl.Ins{Op: op, A: fields[0], B: fields[1], C: fields[2], D: fields[3]})
	return len(k.p.Ins) - 1
}

func (k *plainCompiler) here() int { return len(k.p.Ins) }

// use: top is at least this.
func (k *plainCompiler) use(top int) {
	k.p.Regs = max(k.p.Regs, top)
}

func (k *plainCompiler) setTop(top int) {
	k.top = top
	k.use(top)
}

func (k *plainCompiler) whole() {
	fn := k.fn
	k.p = impl.Proto{Name: fn.Name, Line: fn.Line, Params: fn.Params, Rest: fn.Rest}
	k.setTop(fn.Params)
	if fn.Rest {
		k.setTop(fn.Params + 1)
	}
	for v := range fn.Params {
		k.homes[v] = v
		if k.captured[v] {
			k.emit(impl.IBox, v, took(v))
		}
	}
	k.stat(len(fn.Nodes) - 1)
	r := k.top
	k.setTop(r + 1)
	k.emit(impl.IList, r)
	k.emit(impl.IReturn, took(r))
	for v, name := range fn.Vars {
		if v < fn.Params {
			k.tos[v] = k.here()
		}
		if k.homes[v] >= 0 {
			k.p.Named = append(k.p.Named, impl.Named{Name: name, Reg: k.homes[v], From: k.froms[v], To: k.tos[v]})
		}
	}
}

func (k *plainCompiler) drop(base int) {
	for r := base; r < k.top; r++ {
		k.emit(impl.IDrop, r)
	}
	k.top = base
}

func (k *plainCompiler) constant(v impl.Value) int {
	i := slices.IndexFunc(k.p.Consts, func(c impl.Value) bool {
		return c.Kind == v.Kind && c.Num == v.Num && c.Str == v.Str && math.Float64bits(c.Flt) == math.Float64bits(v.Flt)
	})
	if i < 0 {
		k.p.Consts = append(k.p.Consts, v)
		i = len(k.p.Consts) - 1
	}
	return i
}

// home: a variable's value has come into the register.
func (k *plainCompiler) home(v, r int) {
	k.homes[v] = r
	if k.captured[v] {
		k.emit(impl.IBox, r, took(r))
	}
}

func (k *plainCompiler) name(refs []int) {
	for _, v := range refs {
		k.froms[v] = k.here()
	}
}

func (k *plainCompiler) forget(refs []int) {
	for _, v := range refs {
		k.tos[v] = k.here()
	}
}

func plainConstOf(n impl.Node) (impl.Value, bool) {
	switch n.Kind {
	case impl.NNil:
		return impl.Value{}, true
	case impl.NTrue:
		return impl.Value{Kind: impl.KBool, Num: 1}, true
	case impl.NFalse:
		return impl.Value{Kind: impl.KBool}, true
	case impl.NInt:
		return impl.Value{Kind: impl.KInt, Num: n.Num}, true
	case impl.NFlt:
		return impl.Value{Kind: impl.KFlt, Flt: n.Flt}, true
	case impl.NStr:
		return impl.Value{Kind: impl.KStr, Str: n.Str}, true
	case impl.NBuiltin:
		return impl.Value{Kind: impl.KBuiltin, Num: n.Num}, true
	}
	return impl.Value{}, false
}

func (k *plainCompiler) one(e int) {
	n, r := k.fn.Nodes[e], k.top
	if v, ok := plainConstOf(n); ok {
		k.emit(impl.IConst, r, k.constant(v))
		k.setTop(r + 1)
		return
	}
	switch n.Kind {
	case impl.NVar:
		op := impl.IMove
		if k.captured[n.Refs[0]] {
			op = impl.IGet
		}
		k.emit(op, r, k.homes[n.Refs[0]])
	case impl.NUp:
		k.emit(impl.IUpGet, r, n.Refs[0])
	case impl.NRest:
		k.emit(impl.IPick, r, k.fn.Params, 0)
	case impl.NFn:
		k.emit(impl.IFn, r, n.Refs[0])
	case impl.NAnd, impl.NOr:
		k.one(n.Kids[0])
		op := impl.IUnless
		if n.Kind == impl.NOr {
			op = impl.IIf
		}
		jump := k.emit(op, r, 0)
		k.emit(impl.IDrop, r)
		k.top = r
		k.one(n.Kids[1])
		k.p.Ins[jump].B = k.here()
	case impl.NUnary:
		k.one(n.Kids[0])
		k.emit(impl.IUnary, r, n.Op, took(r))
	case impl.NBinary:
		k.one(n.Kids[0])
		k.one(n.Kids[1])
		k.emit(impl.IBinary, r, n.Op, took(r), took(r+1))
	case impl.NIndex:
		k.one(n.Kids[0])
		k.one(n.Kids[1])
		k.emit(impl.IIndex, r, took(r), took(r+1))
	case impl.NCall:
		k.many(e)
		k.emit(impl.IFirst, r, took(r))
	case impl.NOne:
		k.many(n.Kids[0])
		k.emit(impl.IFirst, r, took(r))
	case impl.NTable:
		k.table(n, r)
	}
	k.setTop(r + 1)
}

func (k *plainCompiler) table(n impl.Node, r int) {
	k.emit(impl.ITable, r)
	k.setTop(r + 1)
	for i := 0; i < len(n.Kids); i += 2 {
		k.one(n.Kids[i])
		if n.Op == 1 && i == len(n.Kids)-2 {
			k.many(n.Kids[i+1])
			k.emit(impl.IRawAll, r, took(r+1), took(r+2))
		} else {
			k.one(n.Kids[i+1])
			k.emit(impl.IRaw, r, took(r+1), took(r+2))
		}
		k.top = r + 1
	}
}

func (k *plainCompiler) many(e int) {
	n, r := k.fn.Nodes[e], k.top
	if n.Kind == impl.NRest {
		k.emit(impl.ICopy, r, k.fn.Params)
	} else {
		k.one(n.Kids[0])
		k.list(n.Kids[1:])
		k.emit(impl.ICall, r, took(r), took(r+1))
	}
	k.setTop(r + 1)
}

func (k *plainCompiler) list(es []int) {
	r := k.top
	k.emit(impl.IList, r)
	k.setTop(r + 1)
	for i, e := range es {
		if kind := k.fn.Nodes[e].Kind; i == len(es)-1 && (kind == impl.NCall || kind == impl.NRest) {
			k.many(e)
			k.emit(impl.IJoin, r, took(r+1))
		} else {
			k.one(e)
			k.emit(impl.IAdd, r, took(r+1))
		}
		k.top = r + 1
	}
}

// values: of so many expressions for so many places, from top on.
func (k *plainCompiler) values(es []int, count int) {
	r := k.top
	if count == 1 && len(es) == 1 {
		k.one(es[0])
		return
	}
	l := r + count
	k.setTop(l)
	k.list(es)
	for j := range count {
		k.emit(impl.IPick, r+j, l, j)
	}
	k.emit(impl.IDrop, l)
	k.top = l
}

func (k *plainCompiler) stat(s int) {
	n := k.fn.Nodes[s]
	if n.Kind == impl.NBlock {
		k.block(n)
		return
	}
	k.emit(impl.ILine, n.Line)
	r := k.top
	switch n.Kind {
	case impl.NLet:
		k.let(n, r)
		return
	case impl.NSet:
		k.set(n)
	case impl.NDo:
		k.many(n.Kids[0])
		k.drop(r)
	case impl.NIf:
		k.ifElse(n, r)
	case impl.NWhile, impl.NFor, impl.NEach:
		k.loop(n, r)
	case impl.NBreak, impl.NNext:
		k.jumpOut(n.Kind)
	case impl.NReturn:
		k.list(n.Kids)
		k.emit(impl.IReturn, took(r))
	case impl.NTry:
		k.try(n, r)
	case impl.NThrow:
		k.one(n.Kids[0])
		k.emit(impl.IThrow, took(r))
	case impl.NDefer:
		call := k.fn.Nodes[n.Kids[0]]
		k.one(call.Kids[0])
		k.list(call.Kids[1:])
		k.emit(impl.IDefer, took(r), took(r+1))
	}
	k.top = r
}

func (k *plainCompiler) block(n impl.Node) {
	level := &plainLevel{what: "block", base: k.top}
	for _, kid := range n.Kids {
		level.defers = level.defers || k.fn.Nodes[kid].Kind == impl.NDefer
	}
	k.levels = append(k.levels, level)
	if level.defers {
		k.emit(impl.IScope, level.base)
	}
	for _, kid := range n.Kids {
		k.stat(kid)
		if level.defers && k.fn.Nodes[kid].Kind == impl.NLet {
			k.emit(impl.IKeep, k.top)
		}
	}
	if level.defers {
		k.emit(impl.ILeave)
	}
	for _, kid := range n.Kids {
		if k.fn.Nodes[kid].Kind == impl.NLet {
			k.forget(k.fn.Nodes[kid].Refs)
		}
	}
	k.drop(level.base)
	k.levels = k.levels[:len(k.levels)-1]
}

func (k *plainCompiler) let(n impl.Node, r int) {
	if len(n.Kids) == 0 {
		for j := range n.Refs {
			k.emit(impl.IConst, r+j, k.constant(impl.Value{}))
		}
	} else {
		k.values(n.Kids, len(n.Refs))
	}
	k.setTop(r + len(n.Refs))
	for j, v := range n.Refs {
		k.home(v, r+j)
	}
	k.name(n.Refs)
}

func (k *plainCompiler) set(n impl.Node) {
	var parts []int
	targets := n.Kids[:n.Num]
	for _, target := range targets {
		parts = append(parts, k.top)
		if node := k.fn.Nodes[target]; node.Kind == impl.NIndex {
			k.one(node.Kids[0])
			k.one(node.Kids[1])
		}
	}
	v := k.top
	k.values(n.Kids[n.Num:], len(targets))
	for j, target := range targets {
		node := k.fn.Nodes[target]
		switch {
		case node.Kind == impl.NIndex:
			k.emit(impl.ISet, took(parts[j]), took(parts[j]+1), took(v+j))
		case node.Kind == impl.NUp:
			k.emit(impl.IUpPut, node.Refs[0], took(v+j))
		case k.captured[node.Refs[0]]:
			k.emit(impl.IPut, k.homes[node.Refs[0]], took(v+j))
		default:
			k.emit(impl.IMove, k.homes[node.Refs[0]], took(v+j))
		}
	}
}

func (k *plainCompiler) ifElse(n impl.Node, r int) {
	k.one(n.Kids[0])
	unless := k.emit(impl.IUnless, took(r), 0)
	k.top = r
	k.stat(n.Kids[1])
	if len(n.Kids) == 2 {
		k.p.Ins[unless].B = k.here()
		return
	}
	jump := k.emit(impl.IJump, 0)
	k.p.Ins[unless].B = k.here()
	k.stat(n.Kids[2])
	k.p.Ins[jump].A = k.here()
}

func (k *plainCompiler) loop(n impl.Node, r int) {
	level := &plainLevel{what: "loop", base: r}
	k.levels = append(k.levels, level)
	var begin, exit int
	switch n.Kind {
	case impl.NWhile:
		begin = k.emit(impl.ITick)
		k.one(n.Kids[0])
		exit = k.emit(impl.IUnless, took(r), 0)
		k.top = r
	case impl.NFor:
		level.base = r + 3
		for _, e := range n.Kids[:3] {
			k.one(e)
		}
		k.emit(impl.IFor, r)
		begin = k.emit(impl.IForTest, r, 0)
		exit = begin
		k.emit(impl.ITick)
		k.emit(impl.IMove, r+3, r)
		k.setTop(r + 4)
		k.home(n.Refs[0], r+3)
	case impl.NEach:
		level.base = r + 2
		k.one(n.Kids[0])
		k.use(r + 2)
		k.emit(impl.IEach, r)
		begin = k.emit(impl.IEachNext, r, 0, r+2)
		exit = begin
		k.setTop(r + 3 + len(n.Refs))
		for j, v := range n.Refs {
			k.emit(impl.IPick, r+3+j, r+2, j)
			k.home(v, r+3+j)
		}
		k.emit(impl.IDrop, r+2)
	}
	k.name(n.Refs)
	k.stat(n.Kids[len(n.Kids)-1])
	k.forget(n.Refs)
	k.drop(level.base)
	for _, i := range level.nexts {
		k.p.Ins[i].A = k.here()
	}
	k.emit(impl.IAt, n.Line)
	if n.Kind == impl.NFor {
		k.emit(impl.IForNext, r, begin)
	} else {
		k.emit(impl.IJump, begin)
	}
	k.p.Ins[exit].B = k.here()
	for _, i := range level.breaks {
		k.p.Ins[i].A = k.here()
	}
	k.drop(r)
	k.levels = k.levels[:len(k.levels)-1]
}

func (k *plainCompiler) jumpOut(kind int) {
	top := k.top
	for _, level := range slices.Backward(k.levels) {
		switch level.what {
		case "block":
			if level.defers {
				k.emit(impl.ILeave)
			}
			k.drop(level.base)
		case "tried":
			k.emit(impl.IEndTry)
		case "caught":
			k.drop(level.base)
		case "loop":
			k.drop(level.base)
			jump := k.emit(impl.IJump, 0)
			if kind == impl.NBreak {
				level.breaks = append(level.breaks, jump)
			} else {
				level.nexts = append(level.nexts, jump)
			}
			k.top = top
			return
		}
	}
}

func (k *plainCompiler) try(n impl.Node, r int) {
	k.use(r + 2)
	level := &plainLevel{what: "tried", base: r}
	k.levels = append(k.levels, level)
	try := k.emit(impl.ITry, 0, r)
	k.stat(n.Kids[0])
	k.emit(impl.IEndTry)
	jump := k.emit(impl.IJump, 0)
	level.what = "caught"
	k.p.Ins[try].A = k.here()
	k.top = r + 2
	k.home(n.Refs[0], r)
	k.home(n.Refs[1], r+1)
	k.name(n.Refs)
	k.stat(n.Kids[1])
	k.forget(n.Refs)
	k.drop(r)
	k.p.Ins[jump].A = k.here()
	k.levels = k.levels[:len(k.levels)-1]
}
