package tests

import (
	"fmt"
	"slices"
	"strings"
	"testing"

	"loop.example/heddle/impl"
)

// compiled: the code of a unit, which is what the plain compiler makes, is verified, has the homes and boxes that are told ahead of
// it, and shares nothing; the unit stays as it was.
func compiled(t *testing.T, told string, u impl.Unit) impl.Code {
	t.Helper()
	before, want := copiedUnit(u), plainCompiled(u)
	got := impl.Compile(u)
	if got.Code != 0 || codeTold(got.Made) != codeTold(want) {
		t.Fatalf("%s: code %d\n%swant\n%s", told, got.Code, codeTold(got.Made), codeTold(want))
	}
	if fault := impl.CheckCode(got.Made); fault != (impl.CodeFault{}) {
		t.Fatalf("%s: %v\n%s", told, fault, codeTold(got.Made))
	}
	checkPlans(t, told, u)
	second := impl.Compile(u).Made
	overwriteCode(second)
	if !sameUnit(u, before) || codeTold(got.Made) != codeTold(want) {
		t.Fatalf("%s: what is given shares memory with the unit or with a second answer", told)
	}
	return got.Made
}

// checkPlans: Captured and Homes of each fn of a unit, of many fns of some, are the plain ones.
func checkPlans(t *testing.T, told string, u impl.Unit) {
	t.Helper()
	before := copiedUnit(u)
	last := len(u.Fns) - 1
	for f, fn := range u.Fns {
		if last > 5 && f != 0 && f != last/2 && f != last {
			continue
		}
		captured, homes := impl.Captured(u, f), impl.Homes(u, f)
		wantHomes := slices.Repeat([]int{-1}, len(fn.Vars))
		k := plainCompilerOf(u, fn)
		k.whole()
		copy(wantHomes, k.homes)
		if want := plainCaptured(u, fn); !slices.Equal(captured, want) || !slices.Equal(homes, wantHomes) {
			t.Errorf("%s: fn %d: %v %v, want %v %v", told, f, captured, homes, want, wantHomes)
		}
	}
	if !sameUnit(u, before) {
		t.Errorf("%s: the unit has changed", told)
	}
}

// overwriteCode changes all that a code's lists hold, and puts something behind them up to their capacity.
func overwriteCode(c impl.Code) {
	protos := c.Protos[:cap(c.Protos)]
	for n := range protos {
		p := &protos[n]
		for i := range p.Ups[:cap(p.Ups)] {
			p.Ups[:cap(p.Ups)][i] = impl.Up{Index: -77}
		}
		for i := range p.Consts[:cap(p.Consts)] {
			p.Consts[:cap(p.Consts)][i] = vStr("overwritten")
		}
		for i := range p.Ins[:cap(p.Ins)] {
			p.Ins[:cap(p.Ins)][i] = impl.Ins{Op: -77}
		}
		for i := range p.Named[:cap(p.Named)] {
			p.Named[:cap(p.Named)][i] = impl.Named{Name: "overwritten"}
		}
		*p = impl.Proto{Name: "overwritten"}
	}
}

// codeTexts: all texts that a code holds.
func codeTexts(c impl.Code) []string {
	var texts []string
	for _, p := range c.Protos {
		texts = append(texts, p.Name)
		for _, v := range p.Consts {
			texts = append(texts, v.Str)
		}
		for _, n := range p.Named {
			texts = append(texts, n.Name)
		}
	}
	return texts
}

// checkCompiledUnit: the code of a unit is this one, told as stepsOf has it.
func checkCompiledUnit(t *testing.T, told string, u impl.Unit, want string) {
	t.Helper()
	got, wanted := codeTold(compiled(t, told, u)), codeTold(stepsOf(want))
	if got != wanted {
		t.Errorf("%s:\n%s\nwant\n%s", told, got, wanted)
	}
}

func checkCompiled(t *testing.T, text, want string) {
	t.Helper()
	checkCompiledUnit(t, text, boundText(t, text), want)
}

// checkBody: the instructions of a text without what stands at the end of every fn; the registers begin at 1, behind the arguments.
func checkBody(t *testing.T, text, want string) {
	t.Helper()
	c := compiled(t, text, boundText(t, text))
	ins := c.Protos[0].Ins
	last := len(ins) - 2
	if !slices.Equal(ins[last:], insOf("list 1; return -2")) {
		t.Errorf("%s: at its end %v", text, ins[last:])
	}
	wanted := stepsOf("proto main rest\n" + want + "\nlist 1; return ~1").Protos[0]
	if !slices.Equal(ins, wanted.Ins) || !slices.EqualFunc(c.Protos[0].Consts, wanted.Consts, sameValue) {
		t.Errorf("%s:\n%s\nwant\n%s", text, codeTold(c), codeTold(impl.Code{Protos: []impl.Proto{wanted}}))
	}
}

// plainTidied: a verified code by the four steps of 13.5, each of them for all instructions ahead of the next one.
func plainTidied(c impl.Code) impl.Code {
	out := copiedCode(c)
	for n := range out.Protos {
		plainTidiedProto(&out.Protos[n])
	}
	return out
}

func plainTidiedProto(p *impl.Proto) {
	v := plainVerifier{p: *p}
	v.p.Ins = slices.Clone(p.Ins)
	for i, ins := range p.Ins {
		for f, sort := range fieldSorts(ins.Op) {
			if sort != "ins" || ins.Op == impl.ITry {
				continue
			}
			to := codeFields(ins)[f]
			for times := 0; times < 100 && p.Ins[to].Op == impl.IJump; times++ {
				to = p.Ins[to].A
			}
			v.p.Ins[i] = withField(ins, f, to)
		}
	}
	isLeft := make([]bool, len(p.Ins))
	isLeft[0] = true
	for i, again := 0, true; again; again = i > 0 {
		i = 0
		for at := range p.Ins {
			for _, to := range v.followers(at) {
				if isLeft[at] && !isLeft[to.at] {
					isLeft[to.at] = true
					i++
				}
			}
		}
	}
	for i, ins := range p.Ins {
		if ins.Op == impl.IFn && !isLeft[i] {
			return
		}
	}
	stays := slices.Clone(isLeft)
	for i, ins := range v.p.Ins {
		next := i + 1
		for next < len(isLeft) && !isLeft[next] {
			next++
		}
		caught := slices.ContainsFunc(countTo(len(isLeft)), func(at int) bool {
			return isLeft[at] && p.Ins[at].Op == impl.ITry && p.Ins[at].A == i
		})
		if ins.Op == impl.IJump && ins.A == next && i != 0 && !caught {
			stays[i] = false
		}
	}
	ahead := func(at int) int {
		count := 0
		for _, is := range stays[:at] {
			if is {
				count++
			}
		}
		return count
	}
	p.Ins = nil
	for i, ins := range v.p.Ins {
		if !stays[i] {
			continue
		}
		for f, sort := range fieldSorts(ins.Op) {
			if sort == "ins" {
				ins = withField(ins, f, ahead(codeFields(ins)[f]))
			}
		}
		p.Ins = append(p.Ins, ins)
	}
	for i, n := range p.Named {
		p.Named[i].From, p.Named[i].To = ahead(n.From), ahead(n.To)
	}
}

// tidyCode: what Tidy makes of a verified code, which is what it plainly becomes, is verified, and shares nothing.
func tidyCode(t *testing.T, told string, c impl.Code) impl.Code {
	t.Helper()
	before, want := codeTold(c), codeTold(plainTidied(c))
	got := impl.Tidy(c)
	if codeTold(got) != want {
		t.Fatalf("%s:\n%s\nwant\n%s\nof\n%s", told, codeTold(got), want, before)
	}
	if fault := impl.CheckCode(got); fault != (impl.CodeFault{}) {
		t.Fatalf("%s: %v\n%s\nof\n%s", told, fault, codeTold(got), before)
	}
	second := impl.Tidy(c)
	overwriteCode(second)
	if codeTold(c) != before || codeTold(got) != want {
		t.Fatalf("%s: what is given shares memory with the code or with a second answer", told)
	}
	return got
}

// notVerified: codes with one fault, of each code of CheckShape and CheckCode.
func notVerified(t *testing.T) map[string]impl.Code {
	t.Helper()
	codes := wrongShapes()
	for code, text := range map[int]string{
		10: "throw 0",
		11: "endtry; list 0; return ~0",
		12: "const 0 1; try @h 1; drop 0; endtry; h: throw 0",
		13: "const 0 1; if 0 @a; const 1 1; a: throw 0",
		14: "begin: jump @begin",
	} {
		c := stepsOf(text)
		if fault := impl.CheckCode(c); fault.Code != code {
			t.Fatal(text, fault)
		}
		codes[fmt.Sprint(code, ": ", text)] = c
	}
	codes["10: only the last proto"] = stepsOf("proto main\nfn 0 f; throw ~0\nproto f\nlist 0; throw 0")
	return codes
}

// checkTidy: a code and what it becomes, both told as stepsOf has them.
func checkTidy(t *testing.T, text, want string) {
	t.Helper()
	got, wanted := codeTold(tidyCode(t, text, stepsOf(text))), codeTold(stepsOf(want))
	if got != wanted {
		t.Errorf("%s:\n%s\nwant\n%s", text, got, wanted)
	}
}

// sharedTexts: whether two codes have a text in one memory.
func sharedTexts(a, b []string) bool {
	return slices.ContainsFunc(a, func(x string) bool {
		return slices.ContainsFunc(b, func(y string) bool { return sharesText(x, y) })
	})
}

func unitTexts(u impl.Unit) []string {
	var texts []string
	for _, fn := range u.Fns {
		texts = append(append(texts, fn.Name), fn.Vars...)
		for _, n := range fn.Nodes {
			texts = append(texts, n.Str)
		}
	}
	return texts
}

// lined: texts as lines of one.
func lined(lines ...string) string { return strings.Join(lines, "\n") }
