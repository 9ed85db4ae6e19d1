package tests

import (
	"math/rand"
	"slices"
	"strings"

	"loop.example/heddle/impl"
)

// codeGrower makes codes by chance: small steps from a verified one, most of them to another that is verified.
type codeGrower struct {
	*rand.Rand
	code   impl.Code
	states [][]impl.State
}

func grownCodes(seed int64) *codeGrower {
	g := &codeGrower{Rand: rand.New(rand.NewSource(seed))}
	first := protoOf(3+g.Intn(4), "const 0 0; box 0 -1; fn 1 1; list 2; add 2 -2; return -3")
	if g.Intn(2) == 0 {
		first.Regs++
		first.Ins = insOf("line 1; const 0 0; box 0 -1; try 7 1; fn 1 1; list 2; jump 10; list 3; add 3 -2; return -4; endtry; return -3")
	}
	inner := protoOf(3+g.Intn(4), "fn 1 2; list 2; return -3")
	inner.Ups = []impl.Up{{Local: true}}
	if g.Intn(2) == 0 {
		inner.Params = 1
	}
	inner.Rest = g.Intn(3) == 0
	last := protoOf(3+g.Intn(4), "upget 0 0; list 2; return -3")
	last.Ups = []impl.Up{{Index: 0}}
	last.Rest = g.Intn(3) == 0
	g.code = impl.Code{Protos: []impl.Proto{first, inner, last}}
	_, g.states = plainVerified(g.code)
	return g
}

// field: a number that a field of this sort may mostly be, with registers that mostly hold what it asks for.
func (g *codeGrower) field(p impl.Proto, types []int, sort string) int {
	if g.Intn(60) == 0 {
		return g.Intn(9) - 4
	}
	least, most := fieldEnds(g.code, p, sort)
	switch sort {
	case "line1", "line0", "element":
		most = least + 4
	}
	x := least + g.Intn(max(1, most-least+1))
	asked := typesOf(strings.TrimPrefix(sort, "="))
	for range 20 {
		r := max(x, -1-x)
		if slices.Contains(asked, -1) || sort[0] == '>' || len(types) < r+len(asked) || slices.Equal(types[r:r+len(asked)], asked) {
			break
		}
		x = least + g.Intn(max(1, most-least+1))
	}
	return x
}

func (g *codeGrower) ins(p impl.Proto, types []int) impl.Ins {
	op := 1 + g.Intn(len(codeOps))
	if g.Intn(6) == 0 {
		op = impl.ITry + g.Intn(impl.ILeave-impl.ITry+1)
	}
	ins := impl.Ins{Op: op}
	for n, sort := range fieldSorts(op) {
		if sort != "" {
			ins = withField(ins, n, g.field(p, types, sort))
		}
	}
	return ins
}

// moved: instructions whose targets from a place on are moved on.
func moved(list []impl.Ins, at, by int) []impl.Ins {
	out := slices.Clone(list)
	for i, ins := range out {
		if !within(ins.Op, 1, len(codeOps)) {
			continue
		}
		for n, sort := range fieldSorts(ins.Op) {
			if x := codeFields(ins)[n]; sort == "ins" && x >= at {
				out[i] = withField(out[i], n, x+by)
			}
		}
	}
	return out
}

// changed: the code with one small change.
func (g *codeGrower) changed() impl.Code {
	c := copiedCode(g.code)
	n := g.Intn(len(c.Protos))
	p := &c.Protos[n]
	at := g.Intn(len(p.Ins))
	types := g.states[n][at].Types
	switch g.Intn(10) {
	case 0, 1, 2, 3, 4:
		p.Ins = slices.Insert(moved(p.Ins, at+g.Intn(2), 1), at, g.ins(*p, types))
	case 5:
		p.Ins = moved(slices.Delete(p.Ins, at, at+1), at+1, -1)
		if len(p.Ins) == 0 {
			p.Ins = insOf("jump 0")
		}
	case 6:
		p.Ins[at] = g.ins(*p, types)
	case 7:
		if sorts := strings.Fields(codeOps[p.Ins[at].Op-1].fields); len(sorts) > 0 {
			f := g.Intn(len(sorts))
			p.Ins[at] = withField(p.Ins[at], f, g.field(*p, types, sorts[f]))
		} else {
			p.Ins[at].D = g.Intn(2)
		}
	case 8:
		to := g.Intn(len(p.Ins))
		p.Ins[at], p.Ins[to] = p.Ins[to], p.Ins[at]
	case 9:
		p = &c.Protos[1+g.Intn(2)]
		if len(p.Ups) > 3 || g.Intn(3) == 0 {
			p.Regs += g.Intn(3) - 1
		} else {
			p.Ups = append(p.Ups, impl.Up{Local: g.Intn(2) == 0, Index: g.Intn(3)})
		}
	}
	return c
}

// next: another code; the grower goes on from it when it is verified, not too long, and little of it is never reached.
func (g *codeGrower) next() impl.Code {
	c := g.changed()
	fault, states := plainVerified(c)
	size, idle := 0, 0
	for _, list := range states {
		size += len(list)
		for _, s := range list {
			if !s.Reached {
				idle++
			}
		}
	}
	if fault.Code == 0 && size < 70 && idle < 2+size/10 {
		g.code, g.states = c, states
	}
	return c
}
