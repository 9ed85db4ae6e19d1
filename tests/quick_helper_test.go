package tests

import (
	"fmt"
	"reflect"
	"slices"
	"strconv"
	"strings"
	"testing"

	"loop.example/heddle/impl"
)

var quickNames = map[string]int{"qtest": 43, "qwith": 44, "qfield": 45, "qdrops": 46}

// quickIns: quick instructions as they are told for these of a code's own: `-` is the one that stands there itself, the quick ones
// have all of A to F written out, with `~3` for a register that is taken.
func quickIns(own []impl.Ins, text string) []impl.QIns {
	var list []impl.QIns
	for i, part := range strings.Split(text, ";") {
		words := strings.Fields(part)
		if words[0] == "-" {
			n := own[i]
			list = append(list, impl.QIns{Op: n.Op, A: n.A, B: n.B, C: n.C, D: n.D})
			continue
		}
		var x [6]int
		for f, word := range words[1:] {
			n, err := strconv.Atoi(strings.TrimPrefix(word, "~"))
			if word[0] == '~' {
				n = -1 - n
			}
			x[f] = n
			if err != nil {
				panic(text)
			}
		}
		if quickNames[words[0]] == 0 || len(words) != 7 {
			panic(text)
		}
		list = append(list, impl.QIns{Op: quickNames[words[0]], A: x[0], B: x[1], C: x[2], D: x[3], E: x[4], F: x[5]})
	}
	return list
}

// plainPrepared: the quick instructions of a verified code, by the table of chapter 14.
func plainPrepared(c impl.Code) impl.Quick {
	var out impl.Quick
	for _, p := range c.Protos {
		var list []impl.QIns
		for i, n := range p.Ins {
			q := plainQuick(p, i, n)
			if q.Op == impl.QField {
				q.D = out.Caches
				out.Caches++
			}
			list = append(list, q)
		}
		out.Protos = append(out.Protos, impl.QProto{Ins: list})
	}
	return out
}

func plainQuick(p impl.Proto, i int, n impl.Ins) impl.QIns {
	const opConst, opIndex, opBinary, opIf, opUnless, opDrop = 4, 15, 18, 20, 21, 42
	drops := 1
	for i+drops < len(p.Ins) && p.Ins[i+drops] == (impl.Ins{Op: opDrop, A: n.A + drops}) {
		drops++
	}
	if n.Op == opDrop && drops >= 2 {
		return impl.QIns{Op: 46, A: n.A, B: drops}
	}
	same := impl.QIns{Op: n.Op, A: n.A, B: n.B, C: n.C, D: n.D}
	if i+1 == len(p.Ins) {
		return same
	}
	x := p.Ins[i+1]
	takes := func(operand int) bool { return operand < 0 && -operand-1 == n.A }
	isOther := func(operand int) bool { return operand != n.A && operand != -n.A-1 }
	switch {
	case n.Op == opBinary && within(n.B, 13, 18) && x.Op == opIf && takes(x.A):
		return impl.QIns{Op: 43, A: n.A, B: n.B, C: n.C, D: n.D, E: x.B, F: 1}
	case n.Op == opBinary && within(n.B, 13, 18) && x.Op == opUnless && takes(x.A):
		return impl.QIns{Op: 43, A: n.A, B: n.B, C: n.C, D: n.D, E: x.B, F: 0}
	case n.Op == opConst && x.Op == opBinary && takes(x.C) && isOther(x.D):
		return impl.QIns{Op: 44, A: x.A, B: x.B, C: x.D, D: n.B, E: 1, F: n.A}
	case n.Op == opConst && x.Op == opBinary && takes(x.D) && isOther(x.C):
		return impl.QIns{Op: 44, A: x.A, B: x.B, C: x.C, D: n.B, E: 0, F: n.A}
	case n.Op == opConst && p.Consts[n.B].Kind == impl.KStr && x.Op == opIndex && takes(x.C) && isOther(x.B):
		return impl.QIns{Op: 45, A: x.A, B: x.B, C: n.B, F: n.A}
	}
	return same
}

func plainQuickListing(q impl.Quick) string {
	names := []string{""}
	for _, o := range codeOps {
		names = append(names, o.name)
	}
	names = append(names, "qtest", "qwith", "qfield", "qdrops")
	var b strings.Builder
	for p, proto := range q.Protos {
		for i, x := range proto.Ins {
			fmt.Fprintf(&b, "%d:%d %s %d %d %d %d %d %d\n", p, i, names[x.Op], x.A, x.B, x.C, x.D, x.E, x.F)
		}
	}
	return b.String()
}

// prepared: what Prepare makes of a verified code, which is what it plainly becomes, is listed so, and shares nothing; the code stays
// as it was.
func prepared(t *testing.T, told string, c impl.Code) impl.Quick {
	t.Helper()
	before, want := codeTold(c), plainPrepared(c)
	if fault := impl.CheckCode(c); fault != (impl.CodeFault{}) {
		t.Fatalf("%s: %v\n%s", told, fault, before)
	}
	got, listing := impl.Prepare(c), impl.QuickListing(c)
	if !reflect.DeepEqual(got, want) {
		t.Fatalf("%s: %s, want %s of\n%s", told, plainQuickListing(got), plainQuickListing(want), before)
	}
	if listing != plainQuickListing(want) {
		t.Fatalf("%s: listed\n%s, want\n%s", told, listing, plainQuickListing(want))
	}
	overwriteQuick(impl.Prepare(c))
	if codeTold(c) != before || !reflect.DeepEqual(got, want) || !reflect.DeepEqual(impl.Prepare(c), want) || impl.QuickListing(c) != listing {
		t.Fatalf("%s: what is given shares memory with the code or with another answer", told)
	}
	return got
}

// overwriteQuick changes all that the lists of an answer hold, up to their capacity.
func overwriteQuick(q impl.Quick) {
	protos := q.Protos[:cap(q.Protos)]
	for n := range protos {
		list := protos[n].Ins
		list = list[:cap(list)]
		for i := range list {
			list[i] = impl.QIns{Op: -77, A: -77, F: -77}
		}
		protos[n] = impl.QProto{}
	}
}

// checkQuick: the quick instructions of a code, told proto by proto as quickIns has them.
func checkQuick(t *testing.T, text string, want ...string) {
	t.Helper()
	c := stepsOf(text)
	got := prepared(t, text, c)
	if len(got.Protos) != len(want) {
		t.Fatalf("%s: %d protos", text, len(got.Protos))
	}
	caches := 0
	for n, told := range want {
		wanted := quickIns(c.Protos[n].Ins, told)
		if !slices.Equal(got.Protos[n].Ins, wanted) {
			t.Errorf("%s: proto %d: %v, want %v", text, n, got.Protos[n].Ins, wanted)
		}
		caches += strings.Count(told, "qfield")
	}
	if got.Caches != caches {
		t.Errorf("%s: %d caches, want %d", text, got.Caches, caches)
	}
}

// checkNoQuick: a code that has none.
func checkNoQuick(t *testing.T, text string) {
	t.Helper()
	var want []string
	for _, p := range stepsOf(text).Protos {
		want = append(want, strings.TrimSuffix(strings.Repeat("-;", len(p.Ins)), ";"))
	}
	checkQuick(t, text, want...)
}

// checkQuickTypes: each quick instruction that can be reached leaves the types that States tells for where it goes on.
func checkQuickTypes(t *testing.T, told string, c impl.Code, met map[int]int) {
	t.Helper()
	all := statesOf(c)
	for p, proto := range prepared(t, told, c).Protos {
		for i, q := range proto.Ins {
			if !all[p][i].Reached || q.Op < impl.QTest {
				continue
			}
			met[q.Op]++
			types, goesOn := quickTypes(q, slices.Clone(all[p][i].Types), i)
			for _, at := range goesOn {
				if s := all[p][at]; !s.Reached || !slices.Equal(s.Types, types) {
					t.Fatalf("%s: proto %d at %d: %v leaves %v, at %d stands %v\n%s", told, p, i, q, types, at, s, codeTold(c))
				}
			}
		}
	}
}

// quickTypes: what the registers hold behind a quick instruction, and where all goes on.
func quickTypes(q impl.QIns, types []int, at int) (behind, goesOn []int) {
	take := func(operands ...int) {
		for _, x := range operands {
			if x < 0 {
				types[-1-x] = impl.TNone
			}
		}
	}
	switch q.Op {
	case impl.QDrops:
		for r := range q.B {
			types[q.A+r] = impl.TNone
		}
		return types, []int{at + q.B}
	case impl.QTest:
		take(q.C, q.D)
		types[q.A] = impl.TNone
		return types, []int{at + 2, q.E}
	case impl.QWith:
		types[q.F] = impl.TNone
		take(q.C)
	case impl.QField:
		types[q.F] = impl.TNone
		take(q.B)
	}
	types[q.A] = impl.TValue
	return types, []int{at + 2}
}

// idle: a code whose proto 0 goes only so far as to the return ahead of these instructions: they need no more than the right shape.
func idle(text string) string { return "list 0; return ~0; " + text + "; jump 0" }

// checkIdle: the quick instructions of instructions that nothing reaches.
func checkIdle(t *testing.T, text, want string) {
	t.Helper()
	checkQuick(t, idle(text), "-; -; "+want+"; -")
}
