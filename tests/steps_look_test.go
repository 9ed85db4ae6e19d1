package tests

import (
	"slices"
	"strings"
	"testing"

	"loop.example/heddle/impl"
)

// P5: Named that hold at the instruction at which a call stands, in their order, of registers that hold a value or a box.
func TestStepLookNamed(t *testing.T) {
	checkStepsLook(t, `line 1; const 0 7; a: line 2; box 1 0; b: line 3; list 2; const 3 "x"; line 4; c: drop 0; const 4 8; put 1 4; line 5; give 5
var list 2
var box 1 @b @c
var late 3
var a 0 @a @c
var box 1
var a 0
var never 4 3 3
var four 4 0 4`,
		"line 0.0:1 / task 0, 0:1",
		"line 0.0:2 / task 0, 0:2 a=7 a=7",
		"line 0.0:3 / task 0, 0:3 box=7 a=7 box=7 a=7",
		"line 0.0:4 / task 0, 0:4 box=7 late=x a=7 box=7 a=7",
		"line 0.0:5 / task 0, 0:5 late=x box=8")
	// From is in it, To is not.
	checkStepsLook(t, "const 0 7; line 1; line 2; line 3; line 4; give 1\nvar a 0 2 4\nvar b 0 1 1\nvar c 0 4 6\nvar d 0 0 7",
		"line 0.0:1 / task 0, 0:1 d=7", "line 0.0:2 / task 0, 0:2 a=7 d=7", "line 0.0:3 / task 0, 0:3 a=7 d=7", "line 0.0:4 / task 0, 0:4 c=7 d=7")
	// The Texts of all sorts of values.
	checkStepsLook(t, "proto main\nconst 0 nil; const 1 true; const 2 1.5; const 3 \"\"; const 4 print; table 5; fn 6 f; one 7 task r6; line 1; give 8\nvar a 0\nvar b 1\nvar c 2\nvar d 3\nvar e 4\nvar f 5\nvar g 6\nvar h 7\nproto f\ngive 0",
		"line 0.0:1 / task 0, 0:1 a=nil b=true c=3p-1 d= e=builtin f=table g=fn h=task")
}

// P5: RecCall at instruction 0 with the registers filled; the caller stands at the instruction that calls, what it took is gone; at
// RecBack nothing but what stands below Params, and no line.
func TestStepLookCalls(t *testing.T) {
	checkStepsLook(t, `proto main
line 1; fn 0 f; const 1 "arg"; list 2; add 2 1; add 2 1; add 2 1; c: call 2 ~0 ~2; d: line 2; give 3
var f 0
var arg 1
var at 1 @c @d
proto f line=9 params=2 rest
a: line 3; const 3 "in"; b: line 4; drop 0; give 4
var p 0
var q 1
var rest 2
var in 3
var first 0 @a 1
var second 0 1 2`,
		"line 0.0:1 / task 0, 0:1",
		"call 0.1:9 f / task 0, 1:0 p=arg q=arg first=arg, 0:1 arg=arg at=arg",
		"line 0.1:3 / task 0, 1:3 p=arg q=arg first=arg, 0:1 arg=arg at=arg",
		"line 0.1:4 / task 0, 1:4 p=arg q=arg in=in, 0:1 arg=arg at=arg",
		"back 0.1:0 / task 0, 1:0 q=arg, 0:1 arg=arg at=arg",
		"line 0.0:2 / task 0, 0:2 arg=arg")
	// A handler's call: the place is as it was ahead of it.
	checkStepsLook(t, kindedSteps("add", "h")+"const 1 \"old\"; binary 1 add 0 0; line 2; give 2\nvar t 0\nvar v 1\nproto h\ngive 0 \"new\"",
		"line 0.0:1 / task 0, 0:1", "call 0.1:0 h / task 0, 1:0, 0:1 t=table v=old", "back 0.1:0 / task 0, 1:0, 0:1 t=table v=old", "line 0.0:2 / task 0, 0:2 t=table v=new")
}

// P5: RecThrow ahead of any leaving; RecCatch when the guard is off, at its Handler, the registers from the Keep on holding nothing.
func TestStepLookErrors(t *testing.T) {
	checkStepsLook(t, `line 1; const 0 "a"; const 1 "b"; try @h 1; const 2 "c"; const 3 "d"; line 2; throw ~2; h: line 3; give 3; end: throw 0
var a 0
var b 1 0 @h
var c 2 0 @h
var d 3
var e 1 @h @end
var t 2 @h @end
var at 0 @h @end`,
		"line 0.0:1 / task 0, 0:1",
		"line 0.0:2 / task 0, 0:2 a=a b=b c=c d=d",
		"throw 0.0:2 c / task 0, 0:2 a=a b=b d=d",
		"catch 0.0:1 c / task 0, 0:1 a=a at=a",
		"line 0.0:3 / task 0, 0:3 a=a e=c t=main:2 at=a")
	// An error that goes through calls: at each RecBack what stands below Params, and the caller as it stands.
	checkStepsLook(t, `proto main
line 1; const 0 "m"; fn 1 f; do 2 r1 5 6; return 2
var m 0
proto f params=1
line 2; const 1 "l"; throw 1
var p 0
var l 1`,
		"line 0.0:1 / task 0, 0:1", "call 0.1:0 f / task 0, 1:0 p=5, 0:1 m=m", "line 0.1:2 / task 0, 1:2 p=5, 0:1 m=m", "throw 0.1:2 l / task 0, 1:2 p=5 l=l, 0:1 m=m",
		"back 0.1:0 error / task 0, 1:0 p=5, 0:1 m=m")
}

// P5: a call that is left through a guard shows what stands below that guard's Keep, while its defers are run: by an error, by a return,
// and by a giving up; by an ILeave it shows all, until an error leaves a defer.
func TestStepLookLeaving(t *testing.T) {
	body := func(how string) string {
		return `proto f params=1 line=9
const 1 "a"; scope 2; at 1; later 4 print 1; const 2 "b"; scope 2; at 2; later 4 print 2; const 3 "c"; keep 4; at 3; later 4 print 3; const 4 "d"; at 4; ` + how + `
var p 0
var a 1
var b 2
var c 3
var d 4`
	}
	main := "proto main\nfn 0 f; const 1 \"m\"; do 2 r0 \"p\"; return 2\nvar m 1\n"
	checkStepsLook(t, main+body("throw 4"),
		"call 0.1:9 f / task 0, 1:0 p=p, 0:0 m=m",
		"throw 0.1:4 d / task 0, 1:4 p=p a=a b=b c=c d=d, 0:0 m=m",
		"print 0.1:3 3 / task 0, 1:3 p=p a=a b=b c=c, 0:0 m=m",
		"print 0.1:2 2 / task 0, 1:2 p=p a=a b=b c=c, 0:0 m=m",
		"print 0.1:1 1 / task 0, 1:1 p=p a=a, 0:0 m=m",
		"back 0.1:0 error / task 0, 1:0 p=p, 0:0 m=m")
	checkStepsLook(t, main+body("give 5"),
		"call 0.1:9 f / task 0, 1:0 p=p, 0:0 m=m",
		"print 0.1:3 3 / task 0, 1:3 p=p a=a b=b c=c, 0:0 m=m",
		"print 0.1:2 2 / task 0, 1:2 p=p a=a b=b c=c, 0:0 m=m",
		"print 0.1:1 1 / task 0, 1:1 p=p a=a, 0:0 m=m",
		"back 0.1:0 / task 0, 1:0 p=p, 0:0 m=m")
	checkStepsLook(t, main+body("leave; at 5; say 5 0; leave; give 5"),
		"call 0.1:9 f / task 0, 1:0 p=p, 0:0 m=m",
		"print 0.1:3 3 / task 0, 1:3 p=p a=a b=b c=c d=d, 0:0 m=m",
		"print 0.1:2 2 / task 0, 1:2 p=p a=a b=b c=c d=d, 0:0 m=m",
		"print 0.1:5 0 / task 0, 1:5 p=p a=a b=b c=c d=d, 0:0 m=m",
		"print 0.1:1 1 / task 0, 1:1 p=p a=a b=b c=c d=d, 0:0 m=m",
		"back 0.1:0 / task 0, 1:0 p=p, 0:0 m=m")
	// A Keep of 0: the parameters are gone at the RecBack too.
	checkStepsLook(t, main+"proto f params=1\nscope 0; at 1; later 1 print 1; give 1\nvar p 0",
		"call 0.1:0 f / task 0, 1:0 p=p, 0:0 m=m", "print 0.1:1 1 / task 0, 1:1, 0:0 m=m", "back 0.1:0 / task 0, 1:0, 0:0 m=m")
	// Out of an ILeave: the error is thrown ahead of any leaving, then the registers hold nothing.
	checkStepsLook(t, "const 0 \"a\"; scope 1; const 1 \"b\"; at 1; later 2 print 1; at 2; later 2 7; at 3; later 2 print 3; at 4; leave; give 2\nvar a 0\nvar b 1",
		"print 0.0:3 3 / task 0, 0:3 a=a b=b", "throw 0.0:2 error 6 / task 0, 0:2 a=a b=b", "print 0.0:1 1 / task 0, 0:1 a=a")
	// An error out of a defer of an error's way, seen in the fn that the defer calls.
	checkStepsLook(t, "proto main\nconst 0 \"a\"; fn 1 f; scope 1; at 1; later 2 print 1; at 2; later 2 r1 \"y\"; at 3; const 2 \"x\"; throw 2\nvar a 0\nvar f 1\nvar x 2\nproto f params=1\nat 8; throw 0\nvar y 0",
		"throw 0.0:3 x / task 0, 0:3 a=a f=fn x=x", "call 0.1:0 f / task 0, 1:0 y=y, 0:2 a=a", "throw 0.1:8 y / task 0, 1:8 y=y, 0:2 a=a", "back 0.1:0 error / task 0, 1:0 y=y, 0:2 a=a",
		"print 0.0:1 1 / task 0, 0:1 a=a")
}

// P5: RecTurn when the new task is running; its calls are what can be seen.
func TestStepLookTasks(t *testing.T) {
	checkStepsLook(t, `proto main
line 1; const 0 "m"; fn 1 f; one 2 task r1; do 3 resume r2 "p"; line 2; do 4 giveup r2; line 3; give 5
var m 0
proto f params=1 line=9
const 1 "a"; scope 1; at 5; later 2 print "d"; const 2 "b"; at 6; do 3 yield; give 4
var p 0
var a 1
var b 2`,
		"line 0.0:1 / task 0, 0:1",
		"turn 1.0:0 resume / task 1",
		"call 1.1:9 f / task 1, 1:0 p=p",
		"turn 0.0:0 yield / task 0, 0:1 m=m",
		"line 0.0:2 / task 0, 0:2 m=m",
		"turn 1.0:0 giveup / task 1, 1:6 p=p a=a b=b",
		"print 1.1:5 d / task 1, 1:5 p=p",
		"back 1.1:0 gone / task 1, 1:0 p=p",
		"turn 0.0:0 gone / task 0, 0:2 m=m",
		"line 0.0:3 / task 0, 0:3 m=m")
	checkStepsLook(t, "proto main\nconst 0 \"m\"; fn 1 f; one 2 task r1; do 3 resume r2; do 3 resume r2; give 4\nvar m 0\nproto f\ndo 0 yield; const 0 \"x\"; at 3; throw 0\nvar x 0",
		"turn 1.0:0 resume / task 1", "call 1.1:0 f / task 1, 1:0", "turn 0.0:0 yield / task 0, 0:0 m=m", "turn 1.0:0 resume / task 1, 1:0", "throw 1.1:3 x / task 1, 1:3 x=x",
		"back 1.1:0 error / task 1, 1:0", "turn 0.0:0 error / task 0, 0:0 m=m")
}

// P5: RecLast, and the RecCatch of a last word: the calls around stand as they are.
func TestStepLookLastWords(t *testing.T) {
	checkStepsLook(t, "proto main\nline 1; fn 8 f; "+lastSteps+"drop 9; const 0 \"m\"; do 1 collect; give 2\nvar m 0\nproto f params=1\nat 2; throw 0\nvar p 0",
		"line 0.0:1 / task 0, 0:1", "last 0.0:0 / task 0, 0:1 m=m", "call 0.1:0 f / task 0, 1:0 p=table, 0:1 m=m", "throw 0.1:2 table / task 0, 1:2 p=table, 0:1 m=m",
		"back 0.1:0 error / task 0, 1:0 p=table, 0:1 m=m", "catch 0.0:0 table / task 0, 0:1 m=m")
}

// P5: with the ticks used up there is no record behind the last one.
func TestStepLookOutOfTicks(t *testing.T) {
	c := stepsOf("const 0 7; line 1; line 2; line 3; give 1\nvar a 0")
	in := impl.Input{Ticks: 2, Depth: 1}
	if got := viewTold(impl.LookCode(c, in, 1)); got != "task 0, 0:2 a=7" {
		t.Error(got)
	}
	if impl.LookCode(c, in, 2).Ok {
		t.Error("one too many")
	}
}

// P5, P17: the same arguments have the same answer, which is new memory: it shares none with an argument or another answer.
func TestStepsShareNothing(t *testing.T) {
	text := `proto main rest
fn 1 outer; one 2 task r1; copy 3 0; call 3 1 ~3; first 3 ~3; const 4 print; call 4 4 0; do 4 resume r2 "given"; pick 5 4 2; say 6 r5 r3; END
var main_var 3
proto outer line=3 params=1 rest
one 2 read; say 3 r2; say 3 r0; const 3 "a_const"; move 4 0; box 4 ~4; line 7; list 5; add 5 3; add 5 0; return 5
var param 0
var literal 3
var boxed 4`
	for _, end := range []string{"return 0", "give 6 r3", "throw 3", `try @h 6; throw 3; h: give 8 r6 r7`} {
		c := stepsOf(strings.Replace(text, "END", end, 1))
		in := plenty()
		in.Args, in.Lines = []string{"argument", "other"}, []string{"line one", "line two"}
		ranCode(t, text, c, in)
		first, again := impl.RunCode(c, in), impl.RunCode(c, in)
		if !sameReport(first, again) {
			t.Errorf("%+v, then %+v", first, again)
		}
		given := append(slices.Clone(in.Args), in.Lines...)
		for _, p := range c.Protos {
			given = append(given, p.Name)
			for _, v := range p.Consts {
				given = append(given, v.Str)
			}
			for _, n := range p.Named {
				given = append(given, n.Name)
			}
		}
		got := append([]string{first.Error, first.Trace}, first.Vals...)
		for k, rec := range first.Recs {
			got = append(got, rec.Text)
			v := impl.LookCode(c, in, k)
			if !sameView(v, impl.LookCode(c, in, k)) {
				t.Errorf("%d: %+v", k, v)
			}
			for _, o := range v.Calls {
				for _, s := range o.Vars {
					got = append(got, s.Name, s.Text)
				}
			}
		}
		for _, a := range got {
			if slices.ContainsFunc(given, func(b string) bool { return sharesText(a, b) }) {
				t.Errorf("%q is the argument's", a)
			}
		}
		for i := range first.Recs[:cap(first.Recs)] {
			first.Recs[:cap(first.Recs)][i] = impl.Rec{Kind: -1}
		}
		if !sameReport(again, impl.RunCode(c, in)) {
			t.Error("reports share their records")
		}
	}
}
