package tests

import (
	"fmt"
	"reflect"
	"slices"
	"strings"
	"testing"

	"loop.example/heddle/impl"
)

// statesTold: a line for each state: the types, a letter for each register, and the guards.
func statesTold(states []impl.State) string {
	var lines []string
	for _, s := range states {
		told := "-"
		if s.Reached {
			told = ""
			for _, sort := range s.Types {
				told += string("nvbl"[sort])
			}
		} else if len(s.Types)+len(s.Guards) > 0 {
			told = "never reached, and yet something"
		}
		for _, g := range s.Guards {
			if g.Try {
				told += fmt.Sprintf(" try%d@%d", g.Keep, g.Handler)
			} else {
				told += fmt.Sprintf(" scope%d@%d", g.Keep, g.Handler)
			}
		}
		lines = append(lines, told)
	}
	return strings.Join(lines, "; ")
}

// guardedCode: three protos with guards within guards, and instructions that are never reached.
func guardedCode() impl.Code {
	first := protoOf(5, "const 0 0; box 0 -1; try @h 1; fn 1 1; scope 2; scope 3; keep 4; list 2; defer 1 -3; leave; leave; endtry; list 4; return -5; tick;"+
		"h: fn 3 2; scope 0; try @g 3; endtry; throw 3; g: throw 4")
	inner := protoOf(4, "each 0; n: eachnext 0 @e 3; line 5; drop 3; jump @n; e: throw -1; throw 0; jump 0")
	inner.Params, inner.Ups = 1, []impl.Up{{Local: true}}
	last := protoOf(4, "upput 0 0; upget 3 0; binary 0 1 0 -4; return -3")
	last.Params, last.Rest, last.Ups = 2, true, []impl.Up{{Local: true}}
	return impl.Code{Protos: []impl.Proto{first, inner, last}}
}

// P5: States: what is known ahead of each instruction of each proto.
func TestStates(t *testing.T) {
	c := guardedCode()
	checkCodeFault(t, "guards within guards", c, impl.CodeFault{})
	for p, want := range []string{
		"nnnnn; vnnnn; bnnnn; bnnnn try1@15; bvnnn try1@15; bvnnn try1@15 scope2@0; bvnnn try1@15 scope2@0 scope3@0; bvnnn try1@15 scope2@0 scope4@0;" +
			" bvlnn try1@15 scope2@0 scope4@0; bvnnn try1@15 scope2@0 scope4@0; bvnnn try1@15 scope2@0; bvnnn try1@15; bvnnn; bvnnl; -;" +
			" bvvnn; bvvvn; bvvvn scope0@0; bvvvn scope0@0 try3@20; bvvvn scope0@0; bvvvv scope0@0",
		"vnnn; vvnn; vvnl; vvnl; vvnn; vvnn; -; -",
		"vvln; vvln; vvlv; vvln",
	} {
		if got := statesTold(impl.States(c, p)); got != want {
			t.Errorf("proto %d:\n%s, want\n%s", p, got, want)
		}
	}
	if got := statesTold(impl.States(impl.Code{Protos: []impl.Proto{{Ins: insOf("tick; jump 0; jump 0")}}}, 0)); got != "; ; -" {
		t.Error("no registers:", got)
	}
	for p := range everyOp().Protos {
		if len(impl.States(everyOp(), p)) != len(everyOp().Protos[p].Ins) {
			t.Error("every Op, proto", p)
		}
	}
}

// P5: States gives nothing for a proto that there is not, and for a code with a fault in any of its protos.
func TestStatesOfNothing(t *testing.T) {
	c := guardedCode()
	for _, p := range []int{-1 << 63, -3, -1, 3, 4, 1<<63 - 1} {
		if got := impl.States(c, p); len(got) != 0 {
			t.Errorf("proto %d: %v", p, got)
		}
	}
	spoils := map[string]func(c *impl.Code){
		"shape":            func(c *impl.Code) { c.Protos[2].Ins[0].D = 1 },
		"head":             func(c *impl.Code) { c.Protos[1].Line = -1 },
		"type in the last": func(c *impl.Code) { c.Protos[2].Ins[3].A = -4 },
		"guard":            func(c *impl.Code) { c.Protos[0].Ins[9] = insOf("endtry")[0] },
		"ring":             func(c *impl.Code) { c.Protos[1].Ins[0] = insOf("jump 0")[0] },
		"no protos":        func(c *impl.Code) { c.Protos = nil },
		"no IFn":           func(c *impl.Code) { c.Protos[0].Ins[15] = insOf("const 3 0")[0] },
	}
	for told, spoil := range spoils {
		bad := copiedCode(c)
		spoil(&bad)
		if impl.CheckCode(bad) == (impl.CodeFault{}) {
			t.Error(told, "is no fault")
		}
		for p := -1; p < 4; p++ {
			if got := impl.States(bad, p); len(got) != 0 {
				t.Errorf("%s, proto %d: %v", told, p, got)
			}
		}
	}
}

// P5, P17: what States gives is new memory, and so is each list of it; a second answer is the same.
func TestStatesAreNew(t *testing.T) {
	for _, c := range []impl.Code{guardedCode(), everyOp()} {
		before := codeTold(c)
		for p := range c.Protos {
			want := statesTold(impl.States(c, p))
			first, second := impl.States(c, p), impl.States(c, p)
			for i := range first {
				for r := range first[i].Types {
					first[i].Types[r] = i
				}
				for g := range first[i].Guards {
					first[i].Guards[g].Keep = i
				}
				first[i].Types = append(first[i].Types[:len(first[i].Types):cap(first[i].Types)], i)
				first[i].Guards = append(first[i].Guards, impl.Guard{Keep: i})
			}
			for i, s := range first {
				if slices.ContainsFunc(s.Types, func(x int) bool { return x != i }) || slices.ContainsFunc(s.Guards, func(g impl.Guard) bool { return g.Keep != i }) {
					t.Errorf("proto %d: state %d shares a list", p, i)
				}
			}
			if statesTold(second) != want || statesTold(impl.States(c, p)) != want || !reflect.DeepEqual(second, impl.States(c, p)) {
				t.Errorf("proto %d: a second answer has changed", p)
			}
		}
		if codeTold(c) != before {
			t.Error("the code has changed")
		}
	}
}

// P17: nothing is written behind the ends of a code's lists either.
func TestCodesWithRoom(t *testing.T) {
	c := guardedCode()
	for p := range c.Protos {
		proto := &c.Protos[p]
		proto.Ins = append(proto.Ins, impl.Ins{Op: -7}, impl.Ins{Op: -7})[:len(proto.Ins)]
		proto.Ups = append(proto.Ups, impl.Up{Index: -7})[:len(proto.Ups)]
		proto.Consts = append(proto.Consts, vInt(-7))[:len(proto.Consts)]
	}
	checkCodeFault(t, "with room", c, impl.CodeFault{})
	for p, proto := range c.Protos {
		if i := len(proto.Ins); proto.Ins[:i+1][i].Op != -7 || proto.Ups[:len(proto.Ups)+1][len(proto.Ups)].Index != -7 || proto.Consts[:len(proto.Consts)+1][len(proto.Consts)].Num != -7 {
			t.Error("something was written behind proto", p)
		}
	}
}
