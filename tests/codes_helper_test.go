package tests

import (
	"cmp"
	"fmt"
	"math"
	"reflect"
	"slices"
	"strconv"
	"strings"
	"testing"

	"loop.example/heddle/impl"
)

// codeOps: the table of 10.1 in its order, with what stands there of each field: `>` a place in which a value, a box, a list or
// nothing is put; `=` places with what they must hold; `v` and `l` operands; the rest are numbers of things.
var codeOps = []struct{ name, fields string }{
	{"line", "line1"}, {"at", "line0"}, {"tick", ""}, {"const", ">v const"}, {"move", ">v v"}, {"box", ">b v"}, {"get", ">v =b"},
	{"put", "=b v"}, {"upget", ">v up"}, {"upput", "up v"}, {"fn", ">v proto"}, {"table", ">v"}, {"raw", "=v v v"},
	{"rawall", "=v v l"}, {"index", ">v v v"}, {"set", "v v v"}, {"unary", ">v unary v"}, {"binary", ">v binary v v"}, {"jump", "ins"},
	{"if", "v ins"}, {"unless", "v ins"}, {"list", ">l"}, {"add", "=l v"}, {"join", "=l l"}, {"first", ">v l"},
	{"pick", ">v =l element"}, {"copy", ">l =l"}, {"call", ">l v l"}, {"return", "l"}, {"throw", "v"}, {"try", "ins trykeep"},
	{"endtry", ""}, {"scope", "keep"}, {"keep", "keep"}, {"defer", "v l"}, {"leave", ""}, {"for", "=vvv"}, {"fortest", "=vvv ins"},
	{"fornext", "=vvv ins"}, {"each", "=vn"}, {"eachnext", "=vv ins >l"}, {"drop", ">n"},
}

// insOf: instructions as they are told: `if 0 @end; tick; end: return -3`.
func insOf(text string) []impl.Ins {
	var told [][]string
	labels := map[string]int{}
	for _, part := range strings.Split(text, ";") {
		words := strings.Fields(part)
		for len(words) > 0 && strings.HasSuffix(words[0], ":") {
			labels["@"+strings.TrimSuffix(words[0], ":")] = len(told)
			words = words[1:]
		}
		if len(words) > 0 {
			told = append(told, words)
		}
	}
	var list []impl.Ins
	for _, words := range told {
		op := slices.IndexFunc(codeOps, func(o struct{ name, fields string }) bool { return o.name == words[0] })
		ins := impl.Ins{Op: op + 1}
		for i, w := range words[1:] {
			n, err := strconv.Atoi(w)
			if at, ok := labels[w]; ok {
				n, err = at, nil
			}
			if err != nil || op < 0 {
				panic(text)
			}
			ins = withField(ins, i, n)
		}
		list = append(list, ins)
	}
	return list
}

func codeFields(i impl.Ins) []int { return []int{i.A, i.B, i.C, i.D} }

func withField(i impl.Ins, n, x int) impl.Ins {
	*[]*int{&i.A, &i.B, &i.C, &i.D}[n] = x
	return i
}

// fieldSorts: what the table says of the four fields of an Op that there is.
func fieldSorts(op int) []string {
	return append(strings.Fields(codeOps[op-1].fields), "", "", "", "")[:4]
}

// protoOf: a proto with two consts and these instructions.
func protoOf(regs int, text string) impl.Proto {
	return impl.Proto{Name: "p", Line: 1, Regs: regs, Consts: []impl.Value{vInt(7), vStr("x")}, Ins: insOf(text)}
}

// codeOf: the text itself as its only proto.
func codeOf(regs int, text string) impl.Code {
	return impl.Code{Protos: []impl.Proto{protoOf(regs, text)}}
}

func copiedCode(c impl.Code) impl.Code {
	var out impl.Code
	for _, p := range c.Protos {
		p.Ups, p.Consts, p.Ins, p.Named = slices.Clone(p.Ups), slices.Clone(p.Consts), slices.Clone(p.Ins), slices.Clone(p.Named)
		out.Protos = append(out.Protos, p)
	}
	return out
}

// codeTold: all of a code in a text, floats by their bits.
func codeTold(c impl.Code) string {
	var b strings.Builder
	for n, p := range c.Protos {
		fmt.Fprintf(&b, "proto %d %q line %d params %d rest %v regs %d ups %v consts", n, p.Name, p.Line, p.Params, p.Rest, p.Regs, p.Ups)
		for _, v := range p.Consts {
			fmt.Fprintf(&b, " {%d %d %x %q %d}", v.Kind, v.Num, math.Float64bits(v.Flt), v.Str, v.Ref)
		}
		fmt.Fprintf(&b, " named %v\n", p.Named)
		for i, ins := range p.Ins {
			name := strconv.Itoa(ins.Op)
			if ins.Op >= 1 && ins.Op <= len(codeOps) {
				name = codeOps[ins.Op-1].name
			}
			fmt.Fprintf(&b, "  %d %s %v\n", i, name, codeFields(ins))
		}
	}
	return b.String()
}

// checkCodeFault: CheckShape and CheckCode answer the fault, as the plain verifier does, States gives what that one knows, and all
// leave the code as it was.
func checkCodeFault(t *testing.T, told string, c impl.Code, want impl.CodeFault) {
	t.Helper()
	if got := impl.CheckCode(c); got != want {
		t.Errorf("%s: CheckCode %v, want %v", told, got, want)
	}
	checkPlainCode(t, told, c)
}

func checkPlainCode(t *testing.T, told string, c impl.Code) impl.CodeFault {
	t.Helper()
	before := codeTold(c)
	shape, fault, states := impl.CheckShape(c), impl.CheckCode(c), statesOf(c)
	wantShape := plainShape(c)
	want, wantStates := plainVerified(c)
	if shape != wantShape || fault != want {
		t.Errorf("%s: CheckShape %v, plainly %v; CheckCode %v, plainly %v\n%s", told, shape, wantShape, fault, want, before)
	}
	if !reflect.DeepEqual(states, wantStates) {
		t.Errorf("%s: States %v, plainly %v\n%s", told, states, wantStates, before)
	}
	if codeTold(c) != before {
		t.Errorf("%s: the code has changed\n%s", told, before)
	}
	return want
}

// statesOf: the States of each proto, empty lists as nil; nothing when there are none.
func statesOf(c impl.Code) [][]impl.State {
	var all [][]impl.State
	for p := range c.Protos {
		states := impl.States(c, p)
		if len(states) == 0 {
			return nil
		}
		for i, s := range states {
			states[i].Types, states[i].Guards = append([]int(nil), s.Types...), append([]impl.Guard(nil), s.Guards...)
		}
		all = append(all, states)
	}
	return all
}

func within(x, least, most int) bool { return least <= x && x <= most }

// plainShape: all faults of a code's shape, and of these the first.
func plainShape(c impl.Code) impl.CodeFault {
	total := 0
	for _, p := range c.Protos {
		total += len(p.Ins)
	}
	if !within(len(c.Protos), 1, 200) || total > 6000 {
		return impl.CodeFault{Code: 1}
	}
	var faults []impl.CodeFault
	made := make([]int, len(c.Protos))
	for n, p := range c.Protos {
		tell := func(code, at int) { faults = append(faults, impl.CodeFault{Code: code, Proto: n, At: at}) }
		plainHead(n, p, tell)
		for i, v := range p.Consts {
			isFlt := v.Kind == impl.KFlt
			if !impl.ValueOk(v) || within(v.Kind, impl.KTable, impl.KTask) || isFlt && v.Flt != v.Flt || !isFlt && math.Float64bits(v.Flt) != 0 {
				tell(3, i)
			}
		}
		for i, v := range p.Named {
			if i == 500 || !within(len(v.Name), 1, 40) || !within(v.Reg, 0, p.Regs-1) || !within(v.From, 0, v.To) || v.To > len(p.Ins) {
				tell(4, i)
			}
		}
		if len(p.Ins) == 0 {
			tell(5, 0)
		}
		for i, ins := range p.Ins {
			isLast := i == len(p.Ins)-1
			if !plainIsInTable(c, p, ins) || isLast && ins.Op != impl.IJump && ins.Op != impl.IReturn && ins.Op != impl.IThrow {
				tell(5, i)
			}
			if ins.Op == impl.IFn && within(ins.B, 0, len(c.Protos)-1) {
				made[ins.B]++
				if ins.B <= n || made[ins.B] > 1 || !plainUpsFit(p, c.Protos[ins.B].Ups) {
					tell(6, i)
				}
			}
		}
	}
	for n := range c.Protos[1:] {
		if made[n+1] == 0 {
			faults = append(faults, impl.CodeFault{Code: 7, Proto: n + 1})
		}
	}
	if len(faults) == 0 {
		return impl.CodeFault{}
	}
	return slices.MinFunc(faults, func(a, b impl.CodeFault) int {
		return cmp.Or(a.Code-b.Code, a.Proto-b.Proto, a.At-b.At)
	})
}

func plainHead(n int, p impl.Proto, tell func(code, at int)) {
	most := p.Regs
	if p.Rest {
		most = p.Regs - 1
	}
	if len(p.Name) > 40 || !within(p.Line, 0, 100000) || !within(p.Regs, 0, 250) || !within(p.Params, 0, most) || len(p.Ups) > 250 ||
		len(p.Consts) > 500 || n == 0 && (p.Params != 0 || len(p.Ups) != 0) {
		tell(2, 0)
	}
}

func plainUpsFit(p impl.Proto, ups []impl.Up) bool {
	for _, up := range ups {
		if up.Local && !within(up.Index, 0, p.Regs-1) || !up.Local && !within(up.Index, 0, len(p.Ups)-1) {
			return false
		}
	}
	return true
}

func plainIsInTable(c impl.Code, p impl.Proto, ins impl.Ins) bool {
	if !within(ins.Op, 1, len(codeOps)) {
		return false
	}
	for n, sort := range fieldSorts(ins.Op) {
		least, most := fieldEnds(c, p, sort)
		if !within(codeFields(ins)[n], least, most) {
			return false
		}
	}
	return true
}

// fieldEnds: the least and the most that a field of this sort may be.
func fieldEnds(c impl.Code, p impl.Proto, sort string) (int, int) {
	switch sort {
	case "":
		return 0, 0
	case "line1":
		return 1, 100000
	case "line0":
		return 0, 100000
	case "const":
		return 0, len(p.Consts) - 1
	case "up":
		return 0, len(p.Ups) - 1
	case "proto":
		return 0, len(c.Protos) - 1
	case "unary":
		return 19, 22
	case "binary":
		return 1, 18
	case "ins":
		return 0, len(p.Ins) - 1
	case "element":
		return 0, 250
	case "keep":
		return 0, p.Regs
	case "trykeep":
		return 0, p.Regs - 2
	case "v", "l":
		return -p.Regs, p.Regs - 1
	}
	return 0, p.Regs - max(1, len(sort)-1)
}

// plainVerified: the first fault of a code, or the states of its protos.
func plainVerified(c impl.Code) (impl.CodeFault, [][]impl.State) {
	if f := plainShape(c); f.Code != 0 {
		return f, nil
	}
	var all [][]impl.State
	for n, p := range c.Protos {
		v := plainVerifier{c: c, p: p, states: make([]impl.State, len(p.Ins))}
		if code, at := v.whole(); code != 0 {
			return impl.CodeFault{Code: code, Proto: n, At: at}, nil
		}
		all = append(all, v.states)
	}
	return impl.CodeFault{}, all
}

type plainVerifier struct {
	c      impl.Code
	p      impl.Proto
	states []impl.State
	waits  []int
}

func (v *plainVerifier) whole() (code, at int) {
	var types []int
	for r := range v.p.Regs {
		switch {
		case r < v.p.Params:
			types = append(types, 1)
		case r == v.p.Params && v.p.Rest:
			types = append(types, 3)
		default:
			types = append(types, 0)
		}
	}
	v.comes(0, types, nil)
	for len(v.waits) > 0 {
		i := slices.Min(v.waits)
		v.waits = slices.DeleteFunc(v.waits, func(j int) bool { return i == j })
		if code, at := v.goes(i); code != 0 {
			return code, at
		}
	}
	for i := range v.p.Ins {
		if v.states[i].Reached && v.silently(i) {
			return 14, i
		}
	}
	return 0, 0
}

func (v *plainVerifier) comes(i int, types []int, guards []impl.Guard) bool {
	types, guards = append([]int(nil), types...), append([]impl.Guard(nil), guards...)
	s := impl.State{Reached: true, Types: types, Guards: guards}
	if v.states[i].Reached {
		return reflect.DeepEqual(v.states[i], s)
	}
	v.states[i] = s
	v.waits = append(v.waits, i)
	return true
}

// typesOf: what the letters of a field ask for.
func typesOf(letters string) []int {
	var types []int
	for _, l := range letters {
		types = append(types, strings.IndexRune("nvbl", l))
	}
	return types
}

func (v *plainVerifier) goes(i int) (code, at int) {
	ins := v.p.Ins[i]
	ahead, guards := v.states[i].Types, slices.Clone(v.states[i].Guards)
	types := slices.Clone(ahead)
	taken, ok := v.reads(ins, types)
	if !ok {
		return 10, i
	}
	if !plainGuarded(ins, guards) {
		return 11, i
	}
	for n, sort := range fieldSorts(ins.Op) {
		if strings.HasPrefix(sort, ">") {
			types[codeFields(ins)[n]] = typesOf(sort[1:])[0]
		}
	}
	if ins.Op == impl.IEach {
		types[ins.A+1] = impl.TValue
		taken = append(taken, ins.A)
	}
	for _, g := range guards {
		for r := range g.Keep {
			if g.Try && (types[r] != ahead[r] || slices.Contains(taken, r)) {
				return 12, i
			}
		}
	}
	switch ins.Op {
	case impl.ITry:
		guards = append(guards, impl.Guard{Try: true, Keep: ins.B, Handler: ins.A})
	case impl.IScope:
		guards = append(guards, impl.Guard{Keep: ins.A})
	case impl.IKeep:
		guards[len(guards)-1].Keep = ins.A
	case impl.IEndTry, impl.ILeave:
		guards = guards[:len(guards)-1]
	}
	for _, to := range v.followers(i) {
		there, on := types, guards
		if to.jump && ins.Op == impl.IEachNext {
			there = ahead
		}
		if to.jump && ins.Op == impl.ITry {
			there = append(append(slices.Clone(ahead[:ins.B]), 1, 1), make([]int, len(ahead)-ins.B-2)...)
			on = v.states[i].Guards
		}
		if !v.comes(to.at, there, on) {
			return 13, to.at
		}
	}
	return 0, 0
}

// reads: what is taken, and whether all that is read is there.
func (v *plainVerifier) reads(ins impl.Ins, types []int) (taken []int, ok bool) {
	var places []int
	for n, sort := range fieldSorts(ins.Op) {
		x := codeFields(ins)[n]
		switch {
		case strings.HasPrefix(sort, "="):
			for k, want := range typesOf(sort[1:]) {
				if types[x+k] != want {
					return nil, false
				}
				places = append(places, x+k)
			}
		case sort == "v" || sort == "l":
			r := x
			if x < 0 {
				r = -x - 1
			}
			if types[r] != typesOf(sort)[0] || x < 0 && slices.Contains(places, r) {
				return nil, false
			}
			if x < 0 {
				types[r] = 0
				taken = append(taken, r)
			}
		case sort == "proto":
			for _, up := range v.c.Protos[x].Ups {
				if up.Local && types[up.Index] != 2 {
					return nil, false
				}
			}
		}
	}
	return taken, true
}

func plainGuarded(ins impl.Ins, guards []impl.Guard) bool {
	innermost := ""
	for _, g := range guards {
		innermost = "defers"
		if g.Try {
			innermost = "catches"
		}
	}
	keep := ins.A
	switch ins.Op {
	case impl.IEndTry:
		return innermost == "catches"
	case impl.IDefer, impl.ILeave:
		return innermost == "defers"
	case impl.IKeep:
		if innermost != "defers" {
			return false
		}
	case impl.ITry, impl.IScope:
		if len(guards) > 49 {
			return false
		}
		if ins.Op == impl.ITry {
			keep = ins.B
		}
	default:
		return true
	}
	return !slices.ContainsFunc(guards, func(g impl.Guard) bool { return g.Try && keep < g.Keep })
}

type plainFollower struct {
	at   int
	jump bool
}

func (v *plainVerifier) followers(i int) []plainFollower {
	ins := v.p.Ins[i]
	var list []plainFollower
	if ins.Op != impl.IJump && ins.Op != impl.IReturn && ins.Op != impl.IThrow {
		list = append(list, plainFollower{at: i + 1})
	}
	for n, sort := range fieldSorts(ins.Op) {
		if sort == "ins" {
			list = append(list, plainFollower{at: codeFields(ins)[n], jump: true})
		}
	}
	return list
}

// silently: whether silent steps lead from an instruction back to it.
func (v *plainVerifier) silently(i int) bool {
	been := make([]bool, len(v.p.Ins))
	for open := []int{i}; len(open) > 0; open = open[1:] {
		ins := v.p.Ins[open[0]]
		if ins.Op == impl.ILine || ins.Op == impl.ITick || ins.Op == impl.ICall || ins.Op == impl.IBinary && ins.B == impl.OpJoin {
			continue
		}
		for _, to := range v.followers(open[0]) {
			if ins.Op == impl.IEachNext && !to.jump {
				continue
			}
			if to.at == i {
				return true
			}
			if !been[to.at] {
				been[to.at] = true
				open = append(open, to.at)
			}
		}
	}
	return false
}
